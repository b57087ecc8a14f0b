import PyProof.Rows.All
import Wide.All
import OpenK.AllK
import Wide.FinOn
import PyProof.EqAt
import PyProof.EqKinds
import PyProof.TupleCall
import Lean
import PyProof.EnumMake
import PyProof.NeKinds
import PyProof.Rows.SortWalk
import KE.KRevIter
import PyProof.ListRange
import KE.KSortTup
import KE.KLam
import KE.KxBytes
import KE.KIsAll
import OpenK.KEqL
import PyProof.Rows.SumAny
import PyProof.AutoListH
import PyProof.Rows.RuleN_isinstance
import OpenK.KOwn
import OpenK.KRaise
import PyProof.StationsW
import PyProof.Rows.FStr
import PyProof.RulesAs
import PyProof.RulesDel
import PySem.Challenge.RW_finebook_k06_no_job
set_option Elab.async false
set_option linter.all false
set_option maxRecDepth 100000
namespace L2
open PySem PySem.Spec PyProof.Rows

/-- a key: an int or a str -/
abbrev Key := Sum Int Str
def keyIs : Key → Value → Bool
  | .inl k, v => Value.isInt k v
  | .inr x, v => Value.isStrOf x v
def keyH (w : World) : Key → Int
  | .inl k => hashInt k
  | .inr x => hashStr w x
theorem keyIs_shape : ∀ {k : Key} {v : Value}, keyIs k v = true → (∃ i t, k = Sum.inl i ∧ v = Value.int i t) ∨ (∃ x t, k = Sum.inr x ∧ v = Value.str x t)
  | .inl i, v, h => by
    obtain ⟨t, e⟩ := Value.isInt_shape (k := i) (v := v) h
    exact .inl ⟨i, t, rfl, e⟩
  | .inr x, v, h => by
    obtain ⟨t, e⟩ := Value.isStrOf_shape (x := x) (v := v) h
    exact .inr ⟨x, t, rfl, e⟩
theorem keyIs_int (i : Int) (t : Tok) : keyIs (.inl i) (.int i t) = true := by simp [keyIs, Value.isInt]
theorem keyIs_str (x : Str) (t : Tok) : keyIs (.inr x) (.str x t) = true := by simp [keyIs, Value.isStrOf]
theorem key_ll (a b : Int) : decide ((Sum.inl a : Key) = Sum.inl b) = (a == b) := by
  by_cases e : a = b
  · subst e; simp
  · have h : ¬ (Sum.inl a : Key) = Sum.inl b := fun q => e (Sum.inl.inj q)
    rw [decide_eq_false h]
    exact (beq_eq_false_iff_ne.mpr e).symm
theorem key_rr (a b : Str) : decide ((Sum.inr a : Key) = Sum.inr b) = decide (a = b) := by
  by_cases e : a = b
  · subst e; simp
  · have h : ¬ (Sum.inr a : Key) = Sum.inr b := fun q => e (Sum.inr.inj q)
    rw [decide_eq_false h, decide_eq_false e]
theorem key_lr (a : Int) (b : Str) : decide ((Sum.inl a : Key) = Sum.inr b) = false := decide_eq_false (fun q => nomatch q)
theorem key_rl (a : Str) (b : Int) : decide ((Sum.inr a : Key) = Sum.inl b) = false := decide_eq_false (fun q => nomatch q)

def mixKind (prog : Program) (w : World) : PySem.KeyKind prog w Key where
  is := keyIs
  hash := keyH w
  inj := fun v a b ha hb => by
    rcases keyIs_shape ha with ⟨i, t, rfl, rfl⟩ | ⟨x, t, rfl, rfl⟩
    · rcases keyIs_shape hb with ⟨j, u, rfl, e⟩ | ⟨y, u, rfl, e⟩
      · injection e with e1 _; rw [e1]
      · exact nomatch e
    · rcases keyIs_shape hb with ⟨j, u, rfl, e⟩ | ⟨y, u, rfl, e⟩
      · exact nomatch e
      · injection e with e1 _; rw [e1]
  byValue := fun k v h => by
    rcases keyIs_shape h with ⟨i, t, rfl, rfl⟩ | ⟨x, t, rfl, rfl⟩ <;> rfl
  pyHash := fun hv h => by
    rcases keyIs_shape hv with ⟨i, t, rfl, rfl⟩ | ⟨x, t, rfl, rfl⟩
    · exact wpAny_pyHash_int h
    · exact wpAny_pyHash_str h
  eqBool := fun hu hv h => by
    rcases keyIs_shape hu with ⟨i, t, rfl, rfl⟩ | ⟨x, t, rfl, rfl⟩
    · rcases keyIs_shape hv with ⟨j, u, rfl, rfl⟩ | ⟨y, u, rfl, rfl⟩
      · rw [key_ll] at h; exact wpAny_eqBool_int h
      · rw [key_lr] at h; exact SeqAt.EqAt.int_str i t y u _ _ _ _ h
    · rcases keyIs_shape hv with ⟨j, u, rfl, rfl⟩ | ⟨y, u, rfl, rfl⟩
      · rw [key_rl] at h; exact SeqAt.EqAt.str_int x t j u _ _ _ _ h
      · rw [key_rr] at h; exact wpAny_eqBool_str h
  «strs» := fun k x t v h => by
    rcases keyIs_shape h with ⟨i, u, rfl, e⟩ | ⟨y, u, rfl, e⟩
    · exact nomatch e
    · injection e with e1 _
      subst e1
      cases v <;> rfl

theorem mixKind_is (prog : Program) (w : World) (k : Key) (v : Value) : (mixKind prog w).is k v = keyIs k v := rfl
theorem mixKind_int (prog : Program) (w : World) (i : Int) (t : Tok) : (mixKind prog w).is (.inl i) (.int i t) = true := keyIs_int i t
theorem mixKind_str (prog : Program) (w : World) (x : Str) (t : Tok) : (mixKind prog w).is (.inr x) (.str x t) = true := keyIs_str x t
end L2

namespace L2
open PySem PySem.Spec PyProof.Rows

/-- a value, without the heap -/
inductive V where
  | non | bl (b : Bool) | int (i : Int) | str (x : Str) | byt (b : Array UInt8) | flt (b : UInt64) | ref (a : Addr) | ty (n : String)
  deriving DecidableEq

def RelV : V → Value → Prop
  | .non, u => u = Value.none
  | .bl b, u => u = Value.bool b
  | .int i, u => ∃ t, u = Value.int i t
  | .str x, u => ∃ t, u = Value.str x t
  | .byt b, u => ∃ t, u = Value.bytes b t
  | .flt b, u => ∃ t, u = Value.float b t
  | .ref a, u => u = Value.ref a
  | .ty n, u => u = Value.type n

abbrev Vals : List V → List Value → Prop := Paired RelV
theorem Vals.length {xs : List V} {us : List Value} (r : Vals xs us) : xs.length = us.length := Paired.length r
theorem Vals.get : ∀ {xs : List V} {us : List Value} {i : Nat} {x : V}, Vals xs us → xs[i]? = some x → ∃ u, us[i]? = some u ∧ RelV x u
  | _, _, _, _, .nil, e => by simp at e
  | _, _, 0, _, .cons r _, e => by simp at e; subst e; exact ⟨_, rfl, r⟩
  | _, _, i + 1, x, .cons _ t, e => by
    obtain ⟨u, h1, h2⟩ := Vals.get (i := i) (x := x) t (by simpa using e)
    exact ⟨u, by simpa using h1, h2⟩
theorem Vals.set {x : V} {u : Value} (r : RelV x u) : ∀ {xs : List V} {us : List Value} (i : Nat), Vals xs us → Vals (xs.set i x) (us.set i u)
  | _, _, _, .nil => .nil
  | _, _, 0, .cons _ t => .cons r t
  | _, _, i + 1, .cons q t => .cons q (Vals.set r i t)
theorem Vals.append : ∀ {xs ys : List V} {us ws : List Value}, Vals xs us → Vals ys ws → Vals (xs ++ ys) (us ++ ws)
  | _, _, _, _, .nil, s => s
  | _, _, _, _, .cons r t, s => .cons r (Vals.append t s)
theorem Vals.take : ∀ {xs : List V} {us : List Value} (n : Nat), Vals xs us → Vals (xs.take n) (us.take n)
  | _, _, 0, _ => .nil
  | _, _, _ + 1, .nil => .nil
  | _, _, n + 1, .cons r t => .cons r (Vals.take n t)
theorem Vals.drop : ∀ {xs : List V} {us : List Value} (n : Nat), Vals xs us → Vals (xs.drop n) (us.drop n)
  | _, _, 0, r => r
  | _, _, _ + 1, .nil => .nil
  | _, _, n + 1, .cons _ t => Vals.drop n t
theorem Vals.none_of : ∀ {xs : List V} {us : List Value} {i : Nat}, Vals xs us → xs[i]? = none → us[i]? = none := fun {xs us i} r e => by
  have h1 := r.length
  have h2 : xs.length ≤ i := List.getElem?_eq_none_iff.mp e
  exact List.getElem?_eq_none_iff.mpr (by omega)

def RelO : Option V → Option Value → Prop
  | some v, some u => RelV v u
  | none, none => True
  | _, _ => False
def KV {κ : Type} : List (κ × V) → List (κ × Value) → Prop := Paired fun (p : κ × V) (q : κ × Value) => p.1 = q.1 ∧ RelV p.2 q.2

/-- a key of a dict (00_mix): an int or a text -/
def kV : Key → V
  | .inl i => .int i
  | .inr x => .str x

/-- what stands at a tracked address -/
inductive HO where
  /-- a list -/
  | lst (xs : List V)
  /-- a tuple (never changes) -/
  | tup (xs : List V)
  /-- a dict whose keys are ints and texts; one whose keys are tuples of ints and texts (the empty one is both) -/
  | dK (kvs : List (Key × V)) | dT (kvs : List (List Key × V))
  /-- a set of ints: its members, its size -/
  | set (S : Int → Bool) (n : Nat)
  /-- an instance of the class at C, its dict at dx, its attributes -/
  | ins (C dx : Addr) (fs : List (Str × V))
  /-- the dict of the instance at x -/
  | own (x : Addr)
  /-- the dict of an exception -/
  | xd (fs : List (Str × V))
  /-- a bound method, f of x -/
  | met (f x : Addr)
  /-- a range object lo, lo + 1, .. below hi -/
  | rng (lo hi : Int)
  /-- a thing that is known to the object (the script; a dict while a loop walks it): read, never written while it is so -/
  | frz (o : Obj) (u : HO)
  /-- a code object's table -/
  | tbl (ps : Array Value)
  /-- any other thing, by what is true of its one object (a def of one's own: SetO a S n := HO.ext fun h => ..) -/
  | ext (φ : Heap → Prop)

abbrev Hp := Addr → Option HO
def upd (H : Hp) (a : Addr) (o : HO) : Hp := fun b => if b = a then some o else H b
theorem upd_same {H : Hp} {a : Addr} {o : HO} : upd H a o a = some o := by unfold upd; rw [if_pos rfl]
theorem upd_ne {H : Hp} {a b : Addr} {o : HO} (h : b ≠ a) : upd H a o b = H b := by unfold upd; rw [if_neg h]
theorem upd_upd {H : Hp} {a : Addr} {o u : HO} : upd (upd H a o) a u = upd H a u := by
  funext b; unfold upd; split <;> rfl
/-- two objects of different content stand apart -/
theorem ne_of {H : Hp} {a b : Addr} {o u : HO} (h : H a = some o) (h' : H b = some u) (d : o ≠ u) : a ≠ b := by
  intro e; subst e; rw [h] at h'; exact d (Option.some.inj h')
theorem ne_of_none {H : Hp} {a b : Addr} {o : HO} (h : H a = some o) (h' : H b = none) : a ≠ b := by
  intro e; subst e; rw [h] at h'; cases h'

section
variable (P : Program) (w : World)
def ObjOk (H : Hp) (h : Heap) (a : Addr) : HO → Prop
  | .lst xs => xs.length ≤ sizeLine ∧ ∃ (its : List Value) (n : Nat), Vals xs its ∧ h.get? a = some { cls := .type "list", data := .seq its.toArray n }
  | .tup xs => xs.length ≤ sizeLine ∧ ∃ its : List Value, Vals xs its ∧ IsTup h a its.toArray
  | .dK kvs => kvs.length ≤ sizeLine ∧ (a == sysModules) = false ∧ ∃ vs, KV kvs vs ∧ h.DictOf (mixKind P w) a vs
  | .dT kvs => kvs.length ≤ sizeLine ∧ (a == sysModules) = false ∧ ∃ xs : List (List Key × Addr × Value),
      Paired (fun (p : List Key × V) (q : List Key × Addr × Value) => p.1 = q.1 ∧ H q.2.1 = some (.tup (p.1.map kV)) ∧ RelV p.2 q.2.2) kvs xs ∧
      ∃ o es ep, h.get? a = some o ∧ o.ExactDict ∧ o.data = .dict es ep ∧ es.toList = xs.map (entryOfKey (tupleKind (mixKind P w))) ∧ (xs.map (·.1)).Nodup
  | .set S n => h.SetOf (intKind P w) a S n
  | .ins C dx fs => H dx = some (.own a) ∧ fs.length ≤ 1000 ∧ dx ≠ a ∧ h.get? a = some (PySem.W.instObj C dx) ∧
      ∃ mA, h.Ns1 dx mA ∧ (∀ f, RelO (fs.lookup f) (mA f)) ∧ PySem.Within mA (fs.map (·.1))
  | .own _ => ∃ o, h.get? a = some o
  | .xd fs => ∃ mA, h.Ns1 a mA ∧ ∀ f, RelO (fs.lookup f) (mA f)
  | .rng lo hi => ∃ t u v, h.get? a = some { cls := .type "range", data := .fields #[.int lo t, .int hi u, .int 1 v] }
  | .frz o u => h.get? a = some o ∧ ObjOk H h a u
  | .tbl ps => h.get? a = some { cls := .none, data := .fields ps }
  | .met f x => h.get? a = some (PySem.W.methodObj (.ref f) (.ref x))
  | .ext φ => φ h ∧ (∃ o, h.get? a = some o) ∧ ∀ h1 h2 : Heap, φ h1 → (∀ o, h1.get? a = some o → h2.get? a = some o) → φ h2
/-- the abstract heap is held -/
def HOk (H : Hp) (h : Heap) : Prop := ∀ a o, H a = some o → ObjOk P w H h a o
end

section
variable {P : Program} {w : World} {H H' : Hp} {h h' : Heap} {a : Addr} {o : HO}
theorem ObjOk.lt (x : ObjOk P w H h a o) : a < h.objs.size := by
  cases o with
  | lst xs => obtain ⟨_, _, _, _, e⟩ := x; exact Heap.lt_size e
  | tup xs => obtain ⟨_, _, _, p⟩ := x; exact p.lt
  | dK kvs => obtain ⟨_, _, _, _, o, _, _, e, _⟩ := x; exact Heap.lt_size e
  | dT kvs => obtain ⟨_, _, _, _, o, _, _, e, _⟩ := x; exact Heap.lt_size e
  | set S n => obtain ⟨o, _, _, _, e, _⟩ := x; exact Heap.lt_size e
  | ins C dx fs => obtain ⟨_, _, _, e, _⟩ := x; exact Heap.lt_size e
  | own y => obtain ⟨_, e⟩ := x; exact Heap.lt_size e
  | xd fs => obtain ⟨_, ⟨_, _, _, e, _⟩, _⟩ := x; exact Heap.lt_size e
  | rng lo hi => obtain ⟨_, _, _, e⟩ := x; exact Heap.lt_size e
  | frz ob u => obtain ⟨e, _⟩ := x; exact Heap.lt_size e
  | tbl ps => exact Heap.lt_size (show h.get? a = some _ from x)
  | met f y => exact Heap.lt_size (show h.get? a = some _ from x)
  | ext φ => obtain ⟨_, ⟨_, e⟩, _⟩ := x; exact Heap.lt_size e
theorem Paired.mapP {α β : Type} {F G : α → β → Prop} : ∀ {l₁ : List α} {l₂ : List β}, Paired F l₁ l₂ → (∀ a b, F a b → G a b) → Paired G l₁ l₂
  | _, _, .nil, _ => .nil
  | _, _, .cons r t, f => .cons (f _ _ r) (Paired.mapP t f)
theorem Paired.imp' {α β : Type} {F G : α → β → Prop} (f : ∀ a b, F a b → G a b) {l₁ : List α} {l₂ : List β} (r : Paired F l₁ l₂) : Paired G l₁ l₂ := Paired.mapP r f
/-- what an object's description leans on: its own object, its own dict, the tuples -/
theorem ObjOk.stay (x : ObjOk P w H h a o) (k : ∀ b u, (b = a ∨ H b = some (.own a)) → h.get? b = some u → h'.get? b = some u)
    (ho : ∀ b, H b = some (.own a) → H' b = some (.own a)) (ht : ∀ b xs, H b = some (.tup xs) → H' b = some (.tup xs)) : ObjOk P w H' h' a o := by
  induction o with
  | lst xs => obtain ⟨z, its, n, r, e⟩ := x; exact ⟨z, its, n, r, k _ _ (.inl rfl) e⟩
  | tup xs => obtain ⟨z, its, r, ob, e, c⟩ := x; exact ⟨z, its, r, ob, k _ _ (.inl rfl) e, c⟩
  | dK kvs => obtain ⟨z, y, vs, r, ob, es, ep, e, c⟩ := x; exact ⟨z, y, vs, r, ob, es, ep, k _ _ (.inl rfl) e, c⟩
  | dT kvs =>
    obtain ⟨z, y, xs, r, ob, es, ep, e, c⟩ := x
    exact ⟨z, y, xs, Paired.mapP r fun p q z => ⟨z.1, ht _ _ z.2.1, z.2.2⟩, ob, es, ep, k _ _ (.inl rfl) e, c⟩
  | set S n => obtain ⟨ob, es, ep, t, e, c⟩ := x; exact ⟨ob, es, ep, t, k _ _ (.inl rfl) e, c⟩
  | ins C dx fs =>
    obtain ⟨d, z, ne, e, mA, ⟨od, es, ep, e2, c⟩, r⟩ := x
    exact ⟨ho _ d, z, ne, k _ _ (.inl rfl) e, mA, ⟨od, es, ep, k _ _ (.inr d) e2, c⟩, r⟩
  | own y => obtain ⟨ob, e⟩ := x; exact ⟨ob, k _ _ (.inl rfl) e⟩
  | xd fs => obtain ⟨mA, ⟨od, es, ep, e, c⟩, r⟩ := x; exact ⟨mA, ⟨od, es, ep, k _ _ (.inl rfl) e, c⟩, r⟩
  | rng lo hi => obtain ⟨t, u, v, e⟩ := x; exact ⟨t, u, v, k _ _ (.inl rfl) e⟩
  | frz ob u ih => obtain ⟨e, q⟩ := x; exact ⟨k _ _ (.inl rfl) e, ih q⟩
  | tbl ps =>
    have e : h.get? a = some { cls := .none, data := .fields ps } := x
    show h'.get? a = some { cls := .none, data := .fields ps }
    exact k a _ (.inl rfl) e
  | met f y =>
    have e : h.get? a = some (PySem.W.methodObj (.ref f) (.ref y)) := x
    show h'.get? a = some (PySem.W.methodObj (.ref f) (.ref y))
    exact k a _ (.inl rfl) e
  | ext φ => obtain ⟨p, ⟨o, e⟩, st⟩ := x; exact ⟨st _ _ p fun o q => k _ _ (.inl rfl) q, ⟨o, k _ _ (.inl rfl) e⟩, st⟩
theorem HOk.lt (x : HOk P w H h) (e : H a = some o) : a < h.objs.size := (x a o e).lt
theorem HOk.fresh (x : HOk P w H h) (e : h.objs.size ≤ a) : H a = none := by
  cases q : H a with
  | none => rfl
  | some u => exact absurd (Nat.lt_of_lt_of_le (x.lt q) e) (Nat.lt_irrefl _)
/-- every object of the heap is kept -/
theorem HOk.kept (x : HOk P w H h) (k : ∀ b u, h.get? b = some u → h'.get? b = some u) : HOk P w H h' := fun a o e =>
  (x a o e).stay (fun b u _ q => k b u q) (fun _ q => q) fun _ _ q => q
/-- a new object is laid and tracked -/
theorem HOk.laid (x : HOk P w H h) (k : ∀ b u, h.get? b = some u → h'.get? b = some u) (hp : h.objs.size ≤ a) (new : ObjOk P w (upd H a o) h' a o) : HOk P w (upd H a o) h' := fun b u e => by
  have hn := x.fresh hp
  by_cases hb : b = a
  · subst hb; rw [upd_same] at e; cases e; exact new
  · rw [upd_ne hb] at e
    exact (x b u e).stay (fun c v _ q => k c v q) (fun c q => by rw [upd_ne (ne_of_none q hn)]; exact q) fun c xs q => by rw [upd_ne (ne_of_none q hn)]; exact q
end

/-- what may be read as u: it is u, or a known u -/
def Rd (H : Hp) (a : Addr) (u : HO) : Prop := H a = some u ∨ ∃ o, H a = some (.frz o u)
theorem Rd.of {H : Hp} {a : Addr} {u : HO} (h : H a = some u) : Rd H a u := .inl h
theorem Rd.ok {P : Program} {w : World} {H : Hp} {h : Heap} {a : Addr} {u : HO} (r : Rd H a u) (x : HOk P w H h) : ObjOk P w H h a u := by
  rcases r with r | ⟨o, r⟩
  · exact x a u r
  · obtain ⟨_, q⟩ := x a _ r
    exact q
/-- what may be written -/
def Mut : Option HO → Prop
  | some (.lst _) => True
  | some (.dK _) => True
  | some (.dT _) => True
  | some (.set _ _) => True
  | some (.ins _ _ _) => True
  | some (.ext _) => True
  | _ => False
section
variable {P : Program} {w : World} {H : Hp} {h h' : Heap} {x e : Addr} {o' : HO}
/-- the object at e is changed: x itself, or the dict of the instance x -/
theorem HOk.write (ok : HOk P w H h) (mu : Mut (H x)) (he : e = x ∨ H e = some (.own x)) (k : ∀ b u, b ≠ e → h.get? b = some u → h'.get? b = some u) (heo : ∃ u, h'.get? e = some u)
    (new : ObjOk P w (upd H x o') h' x o') : HOk P w (upd H x o') h' := fun b u q => by
  have nown : ∀ c y, H c = some (.own y) → c ≠ x := fun c y r z => by subst z; rw [r] at mu; exact mu
  have ntup : ∀ c xs, H c = some (.tup xs) → c ≠ x := fun c xs r z => by subst z; rw [r] at mu; exact mu
  by_cases hb : b = x
  · subst hb; rw [upd_same] at q; cases q; exact new
  · rw [upd_ne hb] at q
    by_cases hbe : b = e
    · have q' : H b = some (.own x) := by
        rcases he with z | z
        · exact absurd (hbe.trans z) hb
        · rw [hbe]; exact z
      rw [q] at q'; cases q'
      obtain ⟨v, hv⟩ := heo
      exact ⟨v, by rw [hbe]; exact hv⟩
    · refine (ok b u q).stay (fun c v hc r => k c v ?_ r) (fun c r => by rw [upd_ne (nown c b r)]; exact r) fun c xs r => by rw [upd_ne (ntup c xs r)]; exact r
      rcases hc with rfl | hc
      · exact hbe
      · rintro rfl
        rcases he with z | z
        · exact nown c b hc z
        · rw [hc] at z; cases z; exact hb rfl
end

/-! ### kept unless tracked; of the frames at fs (the callers') the slots may change (an exception that passes writes there); of the records at ex (iterators) nothing is said -/
structure Un (fs ex : List Addr) (H H' : Hp) (h h' : Heap) : Prop where
  keep : ∀ b o, h.get? b = some o → H b = none → b ∉ fs → b ∉ ex → h'.get? b = some o
  slot : ∀ b o, h.get? b = some o → H b = none → b ∈ fs → b ∉ ex → ∃ sl, h'.get? b = some { o with slots := sl }
  free : ∀ b o, h.get? b = some o → H b = none → b ∉ ex → H' b = none
  there : ∀ b o, h.get? b = some o → b ∉ ex → ∃ o', h'.get? b = some o'
  tups : ∀ b xs, H b = some (.tup xs) → H' b = some (.tup xs)
  frzs : ∀ b o u, H b = some (.frz o u) → H' b = some (.frz o u)
  tbls : ∀ b ps, H b = some (.tbl ps) → ∃ more, H' b = some (.tbl (ps ++ more))
section
variable {fs fs' ex ex' : List Addr} {H H1 H2 : Hp} {h h1 h2 h' : Heap} {a x e : Addr} {o : HO}
theorem Un.any (u : Un fs ex H H1 h h1) {b : Addr} {ob : Obj} (q : h.get? b = some ob) (n : H b = none) (hx : b ∉ ex) : ∃ sl, h1.get? b = some { ob with slots := sl } := by
  by_cases hb : b ∈ fs
  · exact u.slot b ob q n hb hx
  · exact ⟨ob.slots, u.keep b ob q n hb hx⟩
theorem Un.trans (a : Un fs ex H H1 h h1) (b : Un fs ex H1 H2 h1 h2) : Un fs ex H H2 h h2 where
  keep := fun c ob q n hc hx => b.keep c ob (a.keep c ob q n hc hx) (a.free c ob q n hx) hc hx
  slot := fun c ob q n hc hx => by
    obtain ⟨sl, e1⟩ := a.slot c ob q n hc hx
    obtain ⟨sl', e2⟩ := b.slot c _ e1 (a.free c ob q n hx) hc hx
    exact ⟨sl', e2⟩
  free := fun c ob q n hx => by
    obtain ⟨o', e1⟩ := a.there c ob q hx
    exact b.free c o' e1 (a.free c ob q n hx) hx
  there := fun c ob q hx => by
    obtain ⟨o', e1⟩ := a.there c ob q hx
    exact b.there c o' e1 hx
  tups := fun c xs q => b.tups c xs (a.tups c xs q)
  frzs := fun c ob xs q => b.frzs c ob xs (a.frzs c ob xs q)
  tbls := fun c ps q => by
    obtain ⟨m1, e1⟩ := a.tbls c ps q
    obtain ⟨m2, e2⟩ := b.tbls c _ e1
    exact ⟨m1 ++ m2, by rw [e2, Array.append_assoc]⟩
theorem Un.kept (k : ∀ b u, h.get? b = some u → h'.get? b = some u) : Un fs ex H H h h' :=
  ⟨fun b ob q _ _ _ => k b ob q, fun b ob q _ _ _ => ⟨ob.slots, k b ob q⟩, fun _ _ _ n _ => n, fun b ob q _ => ⟨ob, k b ob q⟩, fun _ _ q => q, fun _ _ _ q => q, fun _ ps q => ⟨#[], by rw [q]; simp⟩⟩
theorem Un.refl : Un fs ex H H h h := Un.kept fun _ _ q => q
theorem Un.laid (k : ∀ b u, h.get? b = some u → h'.get? b = some u) (hp : h.objs.size ≤ a) (hn : H a = none) : Un fs ex H (upd H a o) h h' where
  keep := fun b u q _ _ _ => k b u q
  slot := fun b u q _ _ _ => ⟨u.slots, k b u q⟩
  free := fun b u q n _ => by rw [upd_ne (Nat.ne_of_lt (Nat.lt_of_lt_of_le (Heap.lt_size q) hp))]; exact n
  there := fun b u q _ => ⟨u, k b u q⟩
  tups := fun b xs q => by rw [upd_ne (ne_of_none q hn)]; exact q
  frzs := fun b u xs q => by rw [upd_ne (ne_of_none q hn)]; exact q
  tbls := fun b ps q => ⟨#[], by rw [upd_ne (ne_of_none q hn), q]; simp⟩
theorem Un.write (mu : Mut (H x)) (he : e = x ∨ H e = some (.own x)) (k : ∀ b u, b ≠ e → h.get? b = some u → h'.get? b = some u) (heo : ∃ u, h'.get? e = some u) : Un fs ex H (upd H x o) h h' := by
  have hx : ∀ b, H b = none → b ≠ x := fun b n z => by subst z; rw [n] at mu; exact mu
  have hb : ∀ b, H b = none → b ≠ e := fun b n z => by
    subst z
    rcases he with r | r
    · exact hx b n r
    · rw [n] at r; cases r
  have hm : ∀ b u, H b = some u → ¬ Mut (some u) → b ≠ x := fun b u q nm z => by subst z; rw [q] at mu; exact nm mu
  refine ⟨fun b u q n _ _ => k b u (hb b n) q, fun b u q n _ _ => ⟨u.slots, k b u (hb b n) q⟩, fun b u q n _ => by rw [upd_ne (hx b n)]; exact n, fun b u q _ => ?_,
    fun b xs q => by rw [upd_ne (hm b _ q fun z => z)]; exact q, fun b u xs q => by rw [upd_ne (hm b _ q fun z => z)]; exact q, fun b ps q => ⟨#[], by rw [upd_ne (hm b _ q fun z => z), q]; simp⟩⟩
  by_cases hbe : b = e
  · subst hbe; exact heo
  · exact ⟨u, k b u hbe q⟩
theorem Un.mono (u : Un fs ex H H1 h h1) (hs : ∀ b ∈ fs, b ∈ fs') (hx : ∀ b ∈ ex, b ∈ ex') : Un fs' ex' H H1 h h1 :=
  ⟨fun b ob q n hb he => u.keep b ob q n (fun z => hb (hs b z)) fun z => he (hx b z), fun _ _ q n _ he => u.any q n fun z => he (hx _ z), fun b ob q n he => u.free b ob q n fun z => he (hx b z), fun b ob q he => u.there b ob q fun z => he (hx b z), u.tups, u.frzs, u.tbls⟩
end

/-! ### the heap without what is tracked -/
def trk (h : Heap) (H : Hp) : List Addr := (List.range h.objs.size).filter fun a => (H a).isSome
def hidT (h : Heap) (H : Hp) : Heap := PySem.W.hideAll h (trk h H)
theorem hidT_size (h : Heap) (H : Hp) : (hidT h H).objs.size = h.objs.size := PySem.W.hideAll_size _ _
theorem hidT_get {h : Heap} {H : Hp} {b : Addr} {o : Obj} (e : h.get? b = some o) (n : H b = none) : (hidT h H).get? b = some o :=
  PySem.W.hideAll_get _ e fun hm => by
    have q : (H b).isSome = true := (List.mem_filter.mp hm).2
    rw [n] at q; simp at q
theorem of_hidT {h : Heap} {H : Hp} {b : Addr} {o : Obj} (e : (hidT h H).get? b = some o) : h.get? b = some o ∧ H b = none := by
  have e' : h.get? b = some o := PySem.W.of_hideAll (trk h H) e
  refine ⟨e', ?_⟩
  cases q : H b with
  | none => rfl
  | some x =>
    have hm : b ∈ trk h H := List.mem_filter.mpr ⟨List.mem_range.mpr (Heap.lt_size e'), by simp [q]⟩
    have z : (hidT h H).get? b = none := PySem.W.hideAll_none (trk h H) hm
    rw [z] at e; cases e

/-! ### OpenK's ledger, filled with every new object but one -/
def allNews (g h : Heap) (L : Addr) : List (Addr × Obj) := (List.range h.objs.size).filterMap fun a => if a = L ∨ (g.get? a).isSome = true then none else (h.get? a).map fun o => (a, o)
theorem mem_allNews {g h : Heap} {L a : Addr} {o : Obj} (h1 : a ≠ L) (h2 : g.get? a = none) (h3 : h.get? a = some o) : (a, o) ∈ allNews g h L :=
  List.mem_filterMap.mpr ⟨a, List.mem_range.mpr (Heap.lt_size h3), by simp [h1, h2, h3]⟩
theorem of_mem_allNews {g h : Heap} {L : Addr} {p : Addr × Obj} (hp : p ∈ allNews g h L) : p.1 ≠ L ∧ g.get? p.1 = none ∧ h.get? p.1 = some p.2 := by
  obtain ⟨b, _, e⟩ := List.mem_filterMap.mp hp
  split at e
  · cases e
  · rename_i hn
    cases q : h.get? b with
    | none => rw [q] at e; simp at e
    | some u =>
      rw [q] at e
      simp only [Option.map_some, Option.some.injEq] at e
      subst e
      refine ⟨fun z => hn (.inl z), ?_, q⟩
      show g.get? b = none
      cases r : g.get? b with
      | none => rfl
      | some v => exact (hn (.inr (by simp [r]))).elim
def rest (g h : Heap) (L d : Addr) : List (Addr × Obj) := (allNews g h L).filter fun p => decide (p.1 ≠ d)
theorem rest_ne {g h : Heap} {L d : Addr} : ∀ p ∈ rest g h L d, p.1 ≠ d := fun p hp => of_decide_eq_true (List.mem_filter.mp hp).2
theorem mem_rest {g h : Heap} {L d a : Addr} {o : Obj} (h1 : a ≠ L) (h2 : g.get? a = none) (h3 : h.get? a = some o) (h4 : a ≠ d) : (a, o) ∈ rest g h L d :=
  List.mem_filter.mpr ⟨mem_allNews h1 h2 h3, decide_eq_true h4⟩
theorem news_all {g h : Heap} {L : Addr} : News g L h (allNews g h L) := fun p hp => let ⟨a, b, c⟩ := of_mem_allNews hp; ⟨c, a, b⟩
theorem news_at {g h : Heap} {L d : Addr} {o : Obj} (h1 : d ≠ L) (h2 : g.get? d = none) (h3 : h.get? d = some o) : News g L h ((d, o) :: rest g h L d) := fun p hp => by
  rcases List.mem_cons.mp hp with rfl | hp
  · exact ⟨h3, h1, h2⟩
  · exact news_all p (List.mem_filter.mp hp).1
/-- behind a rule that changed d alone: all else but the frame is kept -/
theorem kept_of_news {g h h' : Heap} {L d : Addr} {m : Str → Option Value} (k : ∀ b o, g.get? b = some o → h.get? b = some o) (F : Fr g L h' m) (N : News g L h' (rest g h L d)) :
    ∀ b o, b ≠ L → b ≠ d → h.get? b = some o → h'.get? b = some o := fun b o h1 h2 e => by
  cases q : g.get? b with
  | some u =>
    have := k b u q
    rw [e] at this; cases this
    exact F.keep b _ q
  | none => exact (N (b, o) (mem_rest h1 q e h2)).1
end L2

namespace L2
open PySem PySem.Spec PyProof.Rows

/-- the module's facts, over the base: the heap at the law's entry without what is tracked there -/
structure Mod (K : PySem.W.Frag) (mg : Str → Option Value) (base : Heap) : Prop where
  kin : K.In base
  glob : base.Ns mainGlobals mg
  blt : ∃ mb, base.Ns builtinsNs mb ∧ ∀ x : Str, x ≠ "__name__" → mb x = bootBuiltins x
  nolimit : base.NoLimit

/-- the context: a def's body (or a comprehension's block) running. base: fixed through the whole law; s₀, H₀: the entry; outer: the frames whose slots others may change (a def's callers); stack: all frames that run;
   ex: iterators that were made ahead of the entry and are walked here (a comprehension's); fn: the names whose cells were made at the entry (a def: all; a comprehension's block: its own); calm: not within an except suite; pn: pins that every state bears; xe: what is wanted of an exception that leaves the code -/
structure Cx where
  prog : Program
  w : World
  K : PySem.W.Frag
  mg : Str → Option Value
  base : Heap
  A : Around
  N : List Str
  s₀ : Shared
  H₀ : Hp
  env : Env
  outer : List Env
  stack : List Env
  ex : List Addr
  fn : Str → Bool
  calm : Bool
  pn : List (Addr × Obj)
  xe : Value → Shared → Prop
/-- the callers' frames -/
def frs (l : List Env) : List Addr := l.filterMap (·.frame)
abbrev Cx.fs (X : Cx) : List Addr := frs X.outer

def Vis (sc : Scope) (x : Str) : Prop := sc.names.lookup x = some .local ∨ sc.names.lookup x = some .cell ∨ sc.names.lookup x = some .free
def Loc (sc : Scope) (x : Str) : Prop := sc.names.lookup x = some .local ∨ sc.names.lookup x = some .cell
def Look (env : Env) (h : Heap) (m : Str → Option Value) (x : Str) (u : Value) : Prop :=
  (env.kindOf x = some .local ∧ m x = some u) ∨ ((env.kindOf x = some .cell ∨ env.kindOf x = some .free) ∧ ∃ c, env.cells.lookup x = some c ∧ h.IsCell c (some u))

structure Cx.Ok (X : Cx) : Prop where
  mod : Mod X.K X.mg X.base
  kind : X.env.scope.kind = .function
  glob : X.env.globals = mainGlobals
  blt : X.env.builtins = builtinsNs
  above : X.s₀.heap.objs.size ≤ X.env.locals
  inj : ∀ x y c, X.env.cells.lookup x = some c → X.env.cells.lookup y = some c → x = y
  has : ∀ x, (X.env.kindOf x = some .cell ∨ X.env.kindOf x = some .free) → ∃ c, X.env.cells.lookup x = some c
  cab : ∀ x c, X.fn x = true → X.env.cells.lookup x = some c → X.s₀.heap.objs.size ≤ c
  hd : X.calm = true → X.A.handled = none
  frames : X.A.frames = some X.stack
  stk : X.stack = X.outer ∨ (X.stack = X.env :: X.outer ∧ X.env.frame = some X.env.locals)
  exf : ∀ b ∈ X.ex, b ≠ X.env.locals ∧ ∀ x c, X.env.cells.lookup x = some c → c ≠ b
  bs : ∀ b o, X.base.get? b = some o → X.s₀.heap.get? b = some o ∧ X.H₀ b = none
  bsz : X.base.objs.size ≤ X.s₀.heap.objs.size
  noex : ∀ b o, X.base.get? b = some o → b ∉ X.ex
  exfs : ∀ b ∈ X.ex, b ∉ X.fs
  funs : X.s₀.heap.FunFrames X.base X.outer
  frf : ∀ b ∈ X.fs, X.H₀ b = none

structure Inv (X : Cx) (pins : List (Addr × Obj)) (σ : List (Option V)) (H : Hp) (s : Shared) : Prop where
  ok : X.Ok
  os : s.os = X.s₀.os
  bare : AllBare s.gens
  base : Un X.fs X.ex X.H₀ H X.s₀.heap s.heap
  loc : ∃ m, s.heap.Ns X.env.locals m ∧ ∀ (i : Nat) (x : Str) (v : V), X.N[i]? = some x → σ[i]? = some (some v) → Vis X.env.scope x → ∃ u, RelV v u ∧ Look X.env s.heap m x u
  cell : ∀ x c, X.env.cells.lookup x = some c → ∃ v, s.heap.IsCell c v
  free : H X.env.locals = none
  freeC : ∀ x c, X.env.cells.lookup x = some c → H c = none
  pin : ∀ p ∈ X.pn ++ pins, s.heap.get? p.1 = some p.2 ∧ H p.1 = none ∧ p.1 ≠ X.env.locals ∧ p.1 ∉ X.fs ∧ ∀ v, p.2.data ≠ .cell v
  hok : HOk X.prog X.w H s.heap
  len : σ.length = X.N.length

section
variable {X : Cx} {pins : List (Addr × Obj)} {σ : List (Option V)} {H H' : Hp} {s : Shared} {h' : Heap}

theorem Cx.Ok.nofr (ok : X.Ok) {b : Addr} {o : Obj} (e : X.base.get? b = some o) : b ∉ X.fs := fun hb => by
  have := (ok.funs.mem hb).1
  rw [e] at this; cases this
theorem Inv.bs (I : Inv X pins σ H s) : ∀ b o, X.base.get? b = some o → s.heap.get? b = some o ∧ H b = none := fun b o e =>
  ⟨I.base.keep b o (I.ok.bs b o e).1 (I.ok.bs b o e).2 (I.ok.nofr e) (I.ok.noex b o e), I.base.free b o (I.ok.bs b o e).1 (I.ok.bs b o e).2 (I.ok.noex b o e)⟩
theorem Inv.bk (I : Inv X pins σ H s) : ∀ b o, X.base.get? b = some o → s.heap.get? b = some o := fun b o e => (I.bs b o e).1
theorem Inv.mod (I : Inv X pins σ H s) : Mod X.K X.mg X.base := I.ok.mod
theorem Inv.kIn (I : Inv X pins σ H s) : X.K.In s.heap := I.ok.mod.kin.keeps I.bk
theorem Inv.nolimit (I : Inv X pins σ H s) : s.heap.NoLimit := I.ok.mod.nolimit.keeps I.bk
/-- the frame over the base: for OpenK's rules (K.In X.base is I.mod.kin) -/
theorem Inv.fr (I : Inv X pins σ H s) : ∃ m, Fr X.base X.env.locals s.heap m :=
  let ⟨m, hn, _⟩ := I.loc
  ⟨m, hn, I.bk, Nat.le_trans I.ok.bsz I.ok.above⟩
theorem Inv.lt (I : Inv X pins σ H s) : X.env.locals < s.heap.objs.size := let ⟨_, hn, _⟩ := I.loc; hn.lt
theorem Inv.sz (I : Inv X pins σ H s) : X.s₀.heap.objs.size ≤ s.heap.objs.size := Nat.le_trans I.ok.above (Nat.le_of_lt I.lt)
theorem Inv.nofs (I : Inv X pins σ H s) {a : Addr} (h : s.heap.objs.size ≤ a) : a ∉ X.fs := fun hb => by
  obtain ⟨_, o, ho, _⟩ := I.ok.funs.mem hb
  exact absurd (Nat.lt_of_lt_of_le (Heap.lt_size ho) (Nat.le_trans I.sz h)) (Nat.lt_irrefl _)
theorem Inv.cne (I : Inv X pins σ H s) : ∀ x c, X.env.cells.lookup x = some c → c ≠ X.env.locals := fun x c e z => by
  obtain ⟨v, o, ho, hd⟩ := I.cell x c e
  obtain ⟨m, ⟨o', es, ep, ho', hd', _⟩, _⟩ := I.loc
  rw [z, ho'] at ho; cases ho; rw [hd'] at hd; cases hd
theorem Inv.funs (I : Inv X pins σ H s) : s.heap.FunFrames X.base X.outer := by
  have all : ∀ (l : List Env), (∀ b ∈ frs l, b ∈ X.fs) → X.s₀.heap.FunFrames X.base l → s.heap.FunFrames X.base l := by
    intro l
    induction l with
    | nil => intro _ _; trivial
    | cons env r ih =>
      intro hs hl
      obtain ⟨hk, ⟨L, o, hf, hn, ho, hd⟩, hr⟩ := hl
      have hL : L ∈ X.fs := hs L (by unfold frs; rw [List.filterMap_cons, hf]; exact List.mem_cons_self)
      obtain ⟨sl, e⟩ := I.base.slot L o ho (I.ok.frf L hL) hL fun z => I.ok.exfs L z hL
      exact ⟨hk, ⟨L, _, hf, hn, e, hd⟩, ih (fun b hb => hs b (by unfold frs; rw [List.filterMap_cons, hf]; exact List.mem_cons_of_mem _ hb)) hr⟩
  exact all X.outer (fun _ hb => hb) I.ok.funs

/-- the frames that run, for a call -/
theorem Inv.stack (I : Inv X pins σ H s) : s.heap.FunFrames X.base X.stack := by
  rcases I.ok.stk with e | ⟨e, hf⟩
  · rw [e]; exact I.funs
  · rw [e]
    obtain ⟨m, hn, _⟩ := I.loc
    refine .cons (by rw [I.ok.kind]; decide) hf hn ?_ I.funs
    exact Heap.get?_none_of_le (Nat.le_trans I.ok.bsz I.ok.above)
theorem Inv.stkSub (I : Inv X pins σ H s) : ∀ b ∈ frs X.stack, b ∈ X.env.locals :: X.fs := fun b hb => by
  rcases I.ok.stk with e | ⟨e, hf⟩
  · rw [e] at hb; exact List.mem_cons_of_mem _ hb
  · rw [e] at hb
    unfold frs at hb
    rw [List.filterMap_cons, hf] at hb
    exact hb
theorem Inv.stkFree (I : Inv X pins σ H s) : ∀ b ∈ frs X.stack, H b = none := fun b hb => by
  rcases List.mem_cons.mp (I.stkSub b hb) with e | hb
  · rw [e]; exact I.free
  · obtain ⟨_, o, ho, _⟩ := I.ok.funs.mem hb
    exact I.base.free b o ho (I.ok.frf b hb) fun z => I.ok.exfs b z hb

/-- THE STEP: the untracked objects but the frame and the records at ch are kept (the callers' frames up to slots), the frame's map is kept, the new abstract heap is held -/
theorem Inv.step {g' : Array GenState} {t' : Nat} {d' : Drawn} {ch : List Addr} (I : Inv X pins σ H s)
    (hch : ∀ b ∈ ch, (b ∈ X.ex ∨ X.s₀.heap.objs.size ≤ b) ∧ b ≠ X.env.locals ∧ (∀ x c, X.env.cells.lookup x = some c → c ≠ b) ∧ ∀ p ∈ X.pn ++ pins, p.1 ≠ b)
    (keep : ∀ b o, b ≠ X.env.locals → b ∉ X.fs → b ∉ ch → s.heap.get? b = some o → H b = none → h'.get? b = some o)
    (slot : ∀ b o, b ≠ X.env.locals → b ∈ X.fs → b ∉ ch → s.heap.get? b = some o → H b = none → ∃ sl, h'.get? b = some { o with slots := sl }) (free : ∀ b o, b ∉ ch → s.heap.get? b = some o → H b = none → H' b = none)
    (there : ∀ b o, b ∉ ch → s.heap.get? b = some o → ∃ o', h'.get? b = some o')
    (tups : ∀ b xs, H b = some (.tup xs) → H' b = some (.tup xs)) (frzs : ∀ b o u, H b = some (.frz o u) → H' b = some (.frz o u)) (tbls : ∀ b ps, H b = some (.tbl ps) → ∃ more, H' b = some (.tbl (ps ++ more)))
    (ns : ∀ m, s.heap.Ns X.env.locals m → h'.Ns X.env.locals m) (hok : HOk X.prog X.w H' h') (hg : AllBare g') :
    Inv X pins σ H' { s with heap := h', gens := g', drawn := d', toks := t' } := by
  have neL : ∀ b o, X.s₀.heap.get? b = some o → b ≠ X.env.locals := fun b o e => Nat.ne_of_lt (Nat.lt_of_lt_of_le (Heap.lt_size e) I.ok.above)
  have neC : ∀ b o, X.s₀.heap.get? b = some o → b ∉ X.ex → b ∉ ch := fun b o e hx hb => by
    rcases (hch b hb).1 with z | z
    · exact hx z
    · exact absurd (Nat.lt_of_lt_of_le (Heap.lt_size e) z) (Nat.lt_irrefl _)
  have cellK : ∀ x c, X.env.cells.lookup x = some c → ∀ v, s.heap.IsCell c v → h'.IsCell c v := fun x c e v ⟨o, ho, hd⟩ => by
    have nch : c ∉ ch := fun z => (hch c z).2.2.1 x c e rfl
    by_cases hc : c ∈ X.fs
    · obtain ⟨sl, q⟩ := slot c o (I.cne x c e) hc nch ho (I.freeC x c e)
      exact ⟨_, q, hd⟩
    · exact ⟨o, keep c o (I.cne x c e) hc nch ho (I.freeC x c e), hd⟩
  refine ⟨I.ok, I.os, hg, ⟨fun b o e n hb hx => ?_, fun b o e n hb hx => ?_, fun b o e n hx => ?_, fun b o e hx => ?_, fun b xs e => tups b xs (I.base.tups b xs e), fun b o xs e => frzs b o xs (I.base.frzs b o xs e), fun b ps e => ?_⟩, ?_, fun x c e => ?_, ?_, fun x c e => ?_, fun p hp => ?_, hok, I.len⟩
  · exact keep b o (neL b o e) hb (neC b o e hx) (I.base.keep b o e n hb hx) (I.base.free b o e n hx)
  · obtain ⟨sl, e1⟩ := I.base.slot b o e n hb hx
    obtain ⟨sl', e2⟩ := slot b _ (neL b o e) hb (neC b o e hx) e1 (I.base.free b o e n hx)
    exact ⟨sl', e2⟩
  · obtain ⟨o', e1⟩ := I.base.there b o e hx
    exact free b o' (neC b o e hx) e1 (I.base.free b o e n hx)
  · obtain ⟨o', e1⟩ := I.base.there b o e hx
    exact there b o' (neC b o e hx) e1
  · obtain ⟨m1, e1⟩ := I.base.tbls b ps e
    obtain ⟨m2, e2⟩ := tbls b _ e1
    exact ⟨m1 ++ m2, by rw [e2, Array.append_assoc]⟩
  · obtain ⟨m, hn, hl⟩ := I.loc
    refine ⟨m, ns m hn, fun i x v e1 e2 e3 => ?_⟩
    obtain ⟨u, r, l⟩ := hl i x v e1 e2 e3
    refine ⟨u, r, ?_⟩
    rcases l with l | ⟨k, c, e, z⟩
    · exact .inl l
    · exact .inr ⟨k, c, e, cellK x c e _ z⟩
  · obtain ⟨v, z⟩ := I.cell x c e
    exact ⟨v, cellK x c e v z⟩
  · obtain ⟨m, ⟨o, _, _, ho, _⟩, _⟩ := I.loc
    exact free _ o (fun z => (hch _ z).2.1 rfl) ho I.free
  · obtain ⟨v, o, ho, hd⟩ := I.cell x c e
    exact free c o (fun z => (hch c z).2.2.1 x c e rfl) ho (I.freeC x c e)
  · obtain ⟨e, n, ne, nf, d⟩ := I.pin p hp
    have nch : p.1 ∉ ch := fun z => (hch p.1 z).2.2.2 p hp rfl
    exact ⟨keep p.1 p.2 ne nf nch e n, free p.1 p.2 nch e n, ne, nf, d⟩
/-- .. where the frame's own object is kept too -/
theorem Inv.un {t' : Nat} (I : Inv X pins σ H s) (u : Un X.fs [] H H' s.heap h') (hok : HOk X.prog X.w H' h') : Inv X pins σ H' { s with heap := h', toks := t' } := by
  obtain ⟨m, ⟨o, es, ep, ho, r⟩, _⟩ := id I.loc
  obtain ⟨sl, hL⟩ := u.any ho I.free (by simp)
  exact I.step (g' := s.gens) (d' := s.drawn) (ch := []) (fun _ z => nomatch z) (fun b o _ hb _ e n => u.keep b o e n hb (by simp)) (fun b o _ hb _ e n => u.slot b o e n hb (by simp)) (fun b o _ e n => u.free b o e n (by simp)) (fun b o _ e => u.there b o e (by simp)) u.tups u.frzs u.tbls (fun m' hm => by
    obtain ⟨o', es', ep', ho', r'⟩ := hm
    rw [ho] at ho'; cases ho'
    exact ⟨_, es', ep', hL, r'⟩) hok I.bare
/-- behind a call (or a comprehension's block): the slots of this frame may have changed too, the records at ch may have turned -/
theorem Inv.call {g' : Array GenState} {t' : Nat} {d' : Drawn} {ch : List Addr} (I : Inv X pins σ H s) (u : Un (frs X.stack) ch H H' s.heap h') (hok : HOk X.prog X.w H' h') (hg : AllBare g')
    (hch : ∀ b ∈ ch, (b ∈ X.ex ∨ X.s₀.heap.objs.size ≤ b) ∧ b ≠ X.env.locals ∧ (∀ x c, X.env.cells.lookup x = some c → c ≠ b) ∧ ∀ p ∈ X.pn ++ pins, p.1 ≠ b) :
    Inv X pins σ H' { s with heap := h', gens := g', drawn := d', toks := t' } := by
  obtain ⟨m, ⟨o, es, ep, ho, r⟩, _⟩ := id I.loc
  obtain ⟨sl, hL⟩ := u.any ho I.free fun z => (hch _ z).2.1 rfl
  exact I.step (ch := ch) hch (fun b o hL hb hc e n => u.keep b o e n (fun z => (List.mem_cons.mp (I.stkSub b z)).elim hL hb) hc) (fun b o _ _ hc e n => u.any e n hc) (fun b o hc e n => u.free b o e n hc) (fun b o hc e => u.there b o e hc) u.tups u.frzs u.tbls (fun m' hm => by
    obtain ⟨o', es', ep', ho', r'⟩ := hm
    rw [ho] at ho'; cases ho'
    exact ⟨_, es', ep', hL, r'⟩) hok hg
/-- an untracked record of ours (an iterator) has turned -/
theorem Inv.turned {t' : Nat} {it : Addr} (I : Inv X pins σ H s) (k : ∀ b o, b ≠ it → s.heap.get? b = some o → h'.get? b = some o) (hn : H it = none) (hL : it ≠ X.env.locals)
    (h1 : it ∈ X.ex ∨ X.s₀.heap.objs.size ≤ it) (h2 : ∀ x c, X.env.cells.lookup x = some c → c ≠ it) (h3 : ∀ p ∈ X.pn ++ pins, p.1 ≠ it) : Inv X pins σ H { s with heap := h', toks := t' } := by
  have nit : ∀ b u, H b = some u → b ≠ it := fun b u e z => by rw [z, hn] at e; cases e
  refine I.step (g' := s.gens) (d' := s.drawn) (ch := [it]) (fun b hb => ?_) (fun b o _ _ hc e _ => k b o (fun z => hc (by simp [z])) e) (fun b o _ _ hc e _ => ⟨o.slots, k b o (fun z => hc (by simp [z])) e⟩) (fun _ _ _ _ n => n)
    (fun b o hc e => ⟨o, k b o (fun z => hc (by simp [z])) e⟩) (fun _ _ e => e) (fun _ _ _ e => e) (fun b ps e => ⟨#[], by rw [e]; simp⟩) (fun m hm => ?_) (fun b u e => ?_) I.bare
  · have e : b = it := by simpa using hb
    subst e
    exact ⟨h1, hL, h2, h3⟩
  · obtain ⟨o, es, ep, ho, r⟩ := hm
    exact ⟨o, es, ep, k _ o (Ne.symm hL) ho, r⟩
  · refine (I.hok b u e).stay (fun c v hc q => k c v ?_ q) (fun _ q => q) fun _ _ q => q
    rcases hc with z | z
    · rw [z]; exact nit b u e
    · exact nit c _ z
theorem Inv.tok (I : Inv X pins σ H s) (t : Nat) : Inv X pins σ H { s with toks := t } := I.un (h' := s.heap) (t' := t) Un.refl I.hok
/-- all objects kept -/
theorem Inv.kept {t' : Nat} (I : Inv X pins σ H s) (k : ∀ b u, s.heap.get? b = some u → h'.get? b = some u) : Inv X pins σ H { s with heap := h', toks := t' } := I.un (Un.kept k) (I.hok.kept k)
/-- a new object laid and tracked -/
theorem Inv.laid {a : Addr} {o : HO} {t' : Nat} (I : Inv X pins σ H s) (k : ∀ b u, s.heap.get? b = some u → h'.get? b = some u) (hp : s.heap.objs.size ≤ a) (new : ObjOk X.prog X.w (upd H a o) h' a o) :
    Inv X pins σ (upd H a o) { s with heap := h', toks := t' } := I.un (Un.laid k hp (I.hok.fresh hp)) (I.hok.laid k hp new)
/-- an object written -/
theorem Inv.write {x e : Addr} {o : HO} {t' : Nat} (I : Inv X pins σ H s) (mu : Mut (H x)) (he : e = x ∨ H e = some (.own x)) (k : ∀ b u, b ≠ e → s.heap.get? b = some u → h'.get? b = some u) (heo : ∃ u, h'.get? e = some u)
    (new : ObjOk X.prog X.w (upd H x o) h' x o) : Inv X pins σ (upd H x o) { s with heap := h', toks := t' } := I.un (Un.write mu he k heo) (I.hok.write mu he k heo new)
/-- forgetting slots, pins -/
theorem Inv.weak {σ' : List (Option V)} (I : Inv X pins σ H s) (hl : σ'.length = σ.length) (w : ∀ (i : Nat) v, σ'[i]? = some (some v) → σ[i]? = some (some v)) : Inv X pins σ' H s :=
  ⟨I.ok, I.os, I.bare, I.base, let ⟨m, hn, hl'⟩ := I.loc; ⟨m, hn, fun i x v e1 e2 e3 => hl' i x v e1 (w i v e2) e3⟩, I.cell, I.free, I.freeC, I.pin, I.hok, hl.trans I.len⟩
theorem Inv.pins_of {pins' : List (Addr × Obj)} (I : Inv X pins σ H s) (h : ∀ p ∈ pins', s.heap.get? p.1 = some p.2 ∧ H p.1 = none ∧ p.1 ≠ X.env.locals ∧ p.1 ∉ X.fs ∧ ∀ v, p.2.data ≠ .cell v) : Inv X pins' σ H s :=
  ⟨I.ok, I.os, I.bare, I.base, I.loc, I.cell, I.free, I.freeC, fun p hp => (List.mem_append.mp hp).elim (fun z => I.pin p (List.mem_append_left _ z)) (h p), I.hok, I.len⟩

theorem nodup_ix {N : List Str} (hN : N.Nodup) {i j : Nat} {x : Str} (a : N[i]? = some x) (b : N[j]? = some x) : i = j := by
  obtain ⟨h1, e1⟩ := List.getElem?_eq_some_iff.mp a
  obtain ⟨h2, e2⟩ := List.getElem?_eq_some_iff.mp b
  exact (List.getElem_inj hN).mp (e1.trans e2.symm)

/-- a name is stored; what changed -/
theorem store_ok2 {M : Model} {A : Around} {E : Value → Shared → Prop} {i : Nat} {x : Str} {v : V} {u : Value} {Q : Unit → Shared → Prop} (I : Inv X pins σ H s) (hN : X.N.Nodup) (hi : X.N[i]? = some x) (hx : Loc X.env.scope x) (r : RelV v u)
    (h : ∀ s', Inv X pins (σ.set i (some v)) H s' → (∃ a, Heap.SameBut a s.heap s'.heap ∧ (a = X.env.locals ∨ X.env.cells.lookup x = some a)) → Q () s') (hf : X.fn x = true ∨ X.env.scope.names.lookup x = some .local := by first | exact .inl rfl | exact .inr rfl | assumption) : wpAny M A (storeName X.env x u) Q E s := by
  obtain ⟨m, hn, hl⟩ := id I.loc
  have hcls : (X.env.scope.kind == .class || (X.env.scope.kind == .module && X.env.locals != X.env.globals)) = false := by rw [I.ok.kind]; rfl
  have hiσ : i < σ.length := by rw [I.len]; exact (List.getElem?_eq_some_iff.mp hi).1
  have cne := I.cne
  have tracked : ∀ {a : Addr} {h' : Heap}, (∃ o, s.heap.get? a = some o ∧ H a = none) → Heap.SameBut a s.heap h' → HOk X.prog X.w H h' := fun {a h'} ha hs b ob e => by
    obtain ⟨_, _, hfree⟩ := ha
    refine (I.hok b ob e).stay (fun c w' hc q => (hs.2 c ?_).trans q) (fun _ q => q) fun _ _ q => q
    rintro rfl
    rcases hc with rfl | hc
    · rw [hfree] at e; cases e
    · rw [hfree] at hc; cases hc
  rcases hx with hk | hk
  · refine wpAny_storeName_local hk hn (fun h' hn' hs => ?_) hcls
    obtain ⟨oL, _, _, hoL, _⟩ := id hn
    refine h _ ⟨I.ok, I.os, I.bare, ⟨fun b o e n hb hx => ?_, fun b o e n hb hx => ?_, I.base.free, fun b o e hx => ?_, I.base.tups, I.base.frzs, I.base.tbls⟩, ⟨_, hn', fun j y v' e1 e2 e3 => ?_⟩, fun y c e => ?_, I.free, I.freeC, fun p hp => ?_, tracked ⟨oL, hoL, I.free⟩ hs, by simpa using I.len⟩ ⟨_, hs, .inl rfl⟩
    · exact (hs.2 b (Nat.ne_of_lt (Nat.lt_of_lt_of_le (Heap.lt_size e) I.ok.above))).trans (I.base.keep b o e n hb hx)
    · obtain ⟨sl, e1⟩ := I.base.slot b o e n hb hx
      exact ⟨sl, (hs.2 b (Nat.ne_of_lt (Nat.lt_of_lt_of_le (Heap.lt_size e) I.ok.above))).trans e1⟩
    · obtain ⟨o', e1⟩ := I.base.there b o e hx
      exact ⟨o', (hs.2 b (Nat.ne_of_lt (Nat.lt_of_lt_of_le (Heap.lt_size e) I.ok.above))).trans e1⟩
    · by_cases hj : j = i
      · subst hj
        rw [hi] at e1; cases e1
        rw [List.getElem?_set_self hiσ] at e2
        cases e2
        exact ⟨u, r, .inl ⟨hk, by simp⟩⟩
      · rw [List.getElem?_set_ne (Ne.symm hj)] at e2
        obtain ⟨u', r', q⟩ := hl j y v' e1 e2 e3
        refine ⟨u', r', ?_⟩
        rcases q with ⟨k, e⟩ | ⟨k, c, e, z⟩
        · refine .inl ⟨k, ?_⟩
          have : y ≠ x := fun e => hj (nodup_ix hN e1 (e ▸ hi))
          simp [this, e]
        · exact .inr ⟨k, c, e, z.sameBut hs (cne y c e)⟩
    · obtain ⟨w', z⟩ := I.cell y c e
      exact ⟨w', z.sameBut hs (cne y c e)⟩
    · obtain ⟨e, n, ne, nf, d⟩ := I.pin p hp
      exact ⟨(hs.2 p.1 ne).trans e, n, ne, nf, d⟩
  · have hfn : X.fn x = true := by
      rcases hf with z | z
      · exact z
      · rw [z] at hk; cases hk
    obtain ⟨c, hc⟩ := I.ok.has x (.inl hk)
    obtain ⟨w', z⟩ := I.cell x c hc
    refine wpAny_storeName_cell I.ok.kind hk hc z (fun h' hc' hs => ?_)
    obtain ⟨oc, hoc, hocd⟩ := id z
    refine h { s with heap := h' } ⟨I.ok, I.os, I.bare, ⟨fun b o e n hb hx => ?_, fun b o e n hb hx => ?_, I.base.free, fun b o e hx => ?_, I.base.tups, I.base.frzs, I.base.tbls⟩, ⟨m, hn.sameBut hs (Ne.symm (cne x c hc)), fun j y v' e1 e2 e3 => ?_⟩, fun y c' e => ?_, I.free, I.freeC, fun p hp => ?_, tracked ⟨oc, hoc, I.freeC x c hc⟩ hs, by simpa using I.len⟩ ⟨c, hs, .inr hc⟩
    · exact (hs.2 b (Nat.ne_of_lt (Nat.lt_of_lt_of_le (Heap.lt_size e) (I.ok.cab x c hfn hc)))).trans (I.base.keep b o e n hb hx)
    · obtain ⟨sl, e1⟩ := I.base.slot b o e n hb hx
      exact ⟨sl, (hs.2 b (Nat.ne_of_lt (Nat.lt_of_lt_of_le (Heap.lt_size e) (I.ok.cab x c hfn hc)))).trans e1⟩
    · obtain ⟨o', e1⟩ := I.base.there b o e hx
      exact ⟨o', (hs.2 b (Nat.ne_of_lt (Nat.lt_of_lt_of_le (Heap.lt_size e) (I.ok.cab x c hfn hc)))).trans e1⟩
    · by_cases hj : j = i
      · subst hj
        rw [hi] at e1; cases e1
        rw [List.getElem?_set_self hiσ] at e2
        cases e2
        exact ⟨u, r, .inr ⟨.inl hk, c, hc, hc'⟩⟩
      · rw [List.getElem?_set_ne (Ne.symm hj)] at e2
        obtain ⟨u', r', q⟩ := hl j y v' e1 e2 e3
        refine ⟨u', r', ?_⟩
        rcases q with q | ⟨k, c', e, z'⟩
        · exact .inl q
        · refine .inr ⟨k, c', e, z'.sameBut hs ?_⟩
          rintro rfl
          exact hj (nodup_ix hN e1 (I.ok.inj _ _ _ e hc ▸ hi))
    · by_cases hcc : c' = c
      · subst hcc; exact ⟨_, hc'⟩
      · obtain ⟨w2, z2⟩ := I.cell y c' e
        exact ⟨w2, z2.sameBut hs hcc⟩
    · obtain ⟨e, n, ne, nf, d⟩ := I.pin p hp
      refine ⟨(hs.2 p.1 ?_).trans e, n, ne, nf, d⟩
      intro q
      rw [q, hoc] at e
      have q' : oc = p.2 := Option.some.inj e
      exact d w' (by rw [← q']; exact hocd)
theorem store_ok {M : Model} {A : Around} {E : Value → Shared → Prop} {i : Nat} {x : Str} {v : V} {u : Value} {Q : Unit → Shared → Prop} (I : Inv X pins σ H s) (hN : X.N.Nodup) (hi : X.N[i]? = some x) (hx : Loc X.env.scope x) (r : RelV v u)
    (h : ∀ s', Inv X pins (σ.set i (some v)) H s' → Q () s') (hf : X.fn x = true ∨ X.env.scope.names.lookup x = some .local := by first | exact .inl rfl | exact .inr rfl | assumption) : wpAny M A (storeName X.env x u) Q E s :=
  store_ok2 I hN hi hx r (fun s' I' _ => h s' I') hf
/-- behind a call or a block, the state as it is -/
theorem Inv.call' {s' : Shared} {ch : List Addr} (I : Inv X pins σ H s) (ho : s'.os = s.os) (u : Un (frs X.stack) ch H H' s.heap s'.heap) (hok : HOk X.prog X.w H' s'.heap) (hg : AllBare s'.gens)
    (hch : ∀ b ∈ ch, (b ∈ X.ex ∨ X.s₀.heap.objs.size ≤ b) ∧ b ≠ X.env.locals ∧ (∀ x c, X.env.cells.lookup x = some c → c ≠ b) ∧ ∀ p ∈ X.pn ++ pins, p.1 ≠ b) : Inv X pins σ H' s' := by
  obtain ⟨h', g', d', t', o'⟩ := s'
  have e : o' = s.os := ho
  subst e
  exact I.call (g' := g') (t' := t') (d' := d') u hok hg hch
end

/-! ### the judgements -/
/-- an exception: its class, its own dict's address (where it has one), the abstract heap behind it -/
abbrev XK := Value → Option Addr → Hp → Prop
abbrev St := List (Option V)
abbrev VK := V → Hp → Prop
/-- an expression's reading; a test's; an argument list's -/
abbrev TE := St → Hp → VK → Prop
abbrev TT := St → Hp → (Bool → Hp → Prop) → Prop
abbrev TA := St → Hp → (List V → Hp → Prop) → Prop
/-- what is wanted behind a statement -/
structure Ends where
  nx : St → Hp → Prop
  rt : VK
  bk : St → Hp → Prop := fun _ _ => False
  ct : St → Hp → Prop := fun _ _ => False
abbrev TS := Ends → St → Hp → Prop

def EP (X : Cx) (pins : List (Addr × Obj)) (σ : St) (Q : VK) (u : Value) (s' : Shared) : Prop := ∃ v H', Inv X pins σ H' s' ∧ RelV v u ∧ Q v H'
def TP (X : Cx) (pins : List (Addr × Obj)) (σ : St) (Q : Bool → Hp → Prop) (b : Bool) (s' : Shared) : Prop := ∃ H', Inv X pins σ H' s' ∧ Q b H'
def AP (X : Cx) (pins : List (Addr × Obj)) (σ : St) (Q : List V → Hp → Prop) (us : List Value) (s' : Shared) : Prop := ∃ vs H', Inv X pins σ H' s' ∧ Vals vs us ∧ Q vs H'
def SP (X : Cx) (pins : List (Addr × Obj)) (D : Ends) (f : Flow) (s' : Shared) : Prop :=
  match f with
  | .next => ∃ σ' H', Inv X pins σ' H' s' ∧ D.nx σ' H'
  | .brk => ∃ σ' H', Inv X pins σ' H' s' ∧ D.bk σ' H'
  | .cont => ∃ σ' H', Inv X pins σ' H' s' ∧ D.ct σ' H'
  | .ret u => ∃ v σ' H', Inv X pins σ' H' s' ∧ RelV v u ∧ D.rt v H'

def PE (X : Cx) (e : Expr) (t : TE) : Prop :=
  ∀ (pins : List (Addr × Obj)) (s : Shared) (σ : St) (H : Hp) (Q : VK), Inv X pins σ H s → t σ H Q → wpAny (model X.prog X.w) X.A (eval e X.env) (EP X pins σ Q) X.xe s
def PT (X : Cx) (e : Expr) (t : TT) : Prop :=
  ∀ (pins : List (Addr × Obj)) (s : Shared) (σ : St) (H : Hp) (Q : Bool → Hp → Prop), Inv X pins σ H s → t σ H Q → wpAny (model X.prog X.w) X.A (isTrue e X.env (eval e X.env)) (TP X pins σ Q) X.xe s
/-- a test whatever its 'whole' is (and, or) -/
def PW (X : Cx) (e : Expr) (t : TT) : Prop :=
  ∀ (whole : Sem Value) (pins : List (Addr × Obj)) (s : Shared) (σ : St) (H : Hp) (Q : Bool → Hp → Prop), Inv X pins σ H s → t σ H Q → wpAny (model X.prog X.w) X.A (isTrue e X.env whole) (TP X pins σ Q) X.xe s
theorem PW.pt {X : Cx} {e : Expr} {t : TT} (h : PW X e t) : PT X e t := h _
/-- an argument list (no star), from the left -/
def PA (X : Cx) (es : List Expr) (t : TA) : Prop :=
  ∀ (pos : Pos) (pins : List (Addr × Obj)) (s : Shared) (σ : St) (H : Hp) (Q : List V → Hp → Prop), Inv X pins σ H s → t σ H Q → wpAny (model X.prog X.w) X.A (spliced (backTo pos (starEach es X.env))) (AP X pins σ Q) X.xe s
def PS (X : Cx) (st : Stmt) (t : TS) : Prop :=
  ∀ (pins : List (Addr × Obj)) (s : Shared) (σ : St) (H : Hp) (D : Ends), Inv X pins σ H s → t D σ H → wpAny (model X.prog X.w) X.A (exec st X.env) (SP X pins D) X.xe s
def PSs (X : Cx) (st : List Stmt) (t : TS) : Prop :=
  ∀ (pins : List (Addr × Obj)) (s : Shared) (σ : St) (H : Hp) (D : Ends), Inv X pins σ H s → t D σ H → wpAny (model X.prog X.w) X.A (execs st X.env) (SP X pins D) X.xe s
/-- weaken the end -/
theorem thn {α : Type} {t : Sem α} {Q Q' : α → Shared → Prop} {M : Model} {A : Around} {E : Value → Shared → Prop} {s : Shared} (h : wpAny M A t Q E s) (hQ : ∀ a s, Q a s → Q' a s) : wpAny M A t Q' E s := wpAny_mono h hQ fun _ _ x => x
end L2

namespace L2
open PySem PySem.Spec PyProof.Rows
section
variable {X : Cx}

/-- two expressions in a row -/
theorem bin {a b : Expr} {ta tb : TE} (ha : PE X a ta) (hb : PE X b tb) {pins : List (Addr × Obj)} {s : Shared} {σ : St} {H : Hp} {R : V → V → Hp → Prop} (I : Inv X pins σ H s) (h : ta σ H fun x H1 => tb σ H1 fun y H2 => R x y H2)
    {α : Type} {Q : α → Shared → Prop} {f : Value → Value → Sem α}
    (hf : ∀ v u s2 x y H2, Inv X pins σ H2 s2 → RelV x v → RelV y u → R x y H2 → wpAny (model X.prog X.w) X.A (f v u) Q X.xe s2) :
    wpAny (model X.prog X.w) X.A (eval a X.env) (fun v s₁ => wpAny (model X.prog X.w) X.A (eval b X.env) (fun u s₂ => wpAny (model X.prog X.w) X.A (f v u) Q X.xe s₂) X.xe s₁) X.xe s := by
  refine thn (ha pins s σ H _ I h) fun v s1 ⟨x, H1, I1, r1, q1⟩ => ?_
  refine thn (hb pins s1 σ H1 _ I1 q1) fun u s2 ⟨y, H2, I2, r2, q2⟩ => ?_
  exact hf v u s2 x y H2 I2 r1 r2 q2

/-! ### names and constants -/
def tVar (i : Nat) : TE := fun σ H Q => ∃ v, σ[i]? = some (some v) ∧ Q v H
def tC (v : V) : TE := fun _ H Q => Q v H
theorem pe_var {i : Nat} {x : Str} {pos : Pos} (hN : X.N[i]? = some x) (hv : Vis X.env.scope x) (hd : (x == ("__debug__" : Str)) = false := by decide) (hcd : (x == ("__classdict__" : Str)) = false := by decide) : PE X (.Name x pos) (tVar i) := by
  intro pins s σ H Q I h
  obtain ⟨v, e, h⟩ := h
  obtain ⟨m, hn, hl⟩ := I.loc
  obtain ⟨u, r, l⟩ := hl i x v hN e hv
  have fin : EP X pins σ Q u s := ⟨v, H, I, r, h⟩
  rcases l with ⟨hk, hm⟩ | ⟨hk, c, hc, hcell⟩
  · exact wpAny_Name (wpAny_loadName_local I.ok.kind hk hn hm fin) hd
  · rcases hk with hk | hk
    · exact wpAny_Name (wpAny_loadName_cell I.ok.kind hk hc hcell fin) hd
    · exact wpAny_Name (wpAny_loadName_free I.ok.kind hk hc hcell fin hcd) hd
theorem pe_int {i j pos} : PE X (.Constant (.int i) j pos) (tC (.int i)) := fun _ _ _ H _ I h => wpAny_Constant_int ⟨.int i, H, I.tok _, ⟨_, rfl⟩, h⟩
theorem pe_bl {b j pos} : PE X (.Constant (.bool b) j pos) (tC (.bl b)) := fun _ _ _ H _ I h => Constant_bool ⟨.bl b, H, I, rfl, h⟩
theorem pe_non {j pos} : PE X (.Constant .none j pos) (tC .non) := fun _ _ _ H _ I h => Constant_none ⟨.non, H, I, rfl, h⟩
theorem pe_str {x j pos} : PE X (.Constant (.str x) j pos) (tC (.str x)) := fun _ _ _ H _ I h => Calls.Constant_str ⟨.str x, H, I.tok _, ⟨_, rfl⟩, h⟩

/-- a global name of the def -/
def Gl (X : Cx) (x : Str) : Prop := X.env.kindOf x = some .globalImplicit
theorem ld_glob {E : Value → Shared → Prop} {pins : List (Addr × Obj)} {s : Shared} {σ : St} {H : Hp} {x : Str} {u : Value} {pos : Pos} {Q : Value → Shared → Prop} (I : Inv X pins σ H s) (hg : Gl X x) (hm : X.mg x = some u) (h : Q u s)
    (hd : (x == ("__debug__" : Str)) = false := by decide) : wpAny (model X.prog X.w) X.A (eval (.Name x pos) X.env) Q E s :=
  Calls.Name_function_global I.ok.kind hg (Calls.loadGlobal_global (by rw [I.ok.glob]; exact I.mod.glob.keeps I.bk) hm h) hd
theorem ld_blt {E : Value → Shared → Prop} {pins : List (Addr × Obj)} {s : Shared} {σ : St} {H : Hp} {x : Str} {u : Value} {pos : Pos} {Q : Value → Shared → Prop} (I : Inv X pins σ H s) (hg : Gl X x) (hm : X.mg x = none) (hv : bootBuiltins x = some u) (h : Q u s)
    (hn : x ≠ "__name__" := by decide) (hd : (x == ("__debug__" : Str)) = false := by decide) : wpAny (model X.prog X.w) X.A (eval (.Name x pos) X.env) Q E s := by
  obtain ⟨mb, h1, h2⟩ := I.mod.blt
  exact Calls.Name_function_global I.ok.kind hg (Calls.loadGlobal_builtin (by rw [I.ok.glob]; exact I.mod.glob.keeps I.bk) hm (by rw [I.ok.blt]; exact h1.keeps I.bk) ((h2 x hn).trans hv) h) hd
/-- a module's constant, a class, a function, as a value -/
theorem pe_glob {x : Str} {v : V} {u : Value} {pos : Pos} (hg : Gl X x) (hm : X.mg x = some u) (r : RelV v u) (hd : (x == ("__debug__" : Str)) = false := by decide) : PE X (.Name x pos) (tC v) :=
  fun _ _ _ H _ I h => ld_glob I hg hm ⟨v, H, I, r, h⟩ hd
theorem pe_bltn {x : Str} {v : V} {u : Value} {pos : Pos} (hg : Gl X x) (hm : X.mg x = none) (hv : bootBuiltins x = some u) (r : RelV v u) (hn : x ≠ "__name__" := by decide) (hd : (x == ("__debug__" : Str)) = false := by decide) : PE X (.Name x pos) (tC v) :=
  fun _ _ _ H _ I h => ld_blt I hg hm hv ⟨v, H, I, r, h⟩ hn hd

/-! ### arithmetic -/
/-- two ints -/
def t2I (ta tb : TE) (k : Int → Int → Hp → Prop) : St → Hp → Prop := fun σ H => ta σ H fun x H1 => tb σ H1 fun y H2 => ∃ i j, x = .int i ∧ y = .int j ∧ k i j H2
def tAdd (ta tb : TE) : TE := fun σ H Q => t2I ta tb (fun i j H2 => Q (.int (i + j)) H2) σ H
def tSub (ta tb : TE) : TE := fun σ H Q => t2I ta tb (fun i j H2 => Q (.int (i - j)) H2) σ H
/-- the left factor below 2^64 -/
def tMul (ta tb : TE) : TE := fun σ H Q => t2I ta tb (fun i j H2 => (-(2 ^ 64) < i ∧ i < 2 ^ 64) ∧ Q (.int (i * j)) H2) σ H
variable {a b : Expr} {ta tb : TE} {pos : Pos}
theorem pe_add (ha : PE X a ta) (hb : PE X b tb) : PE X (.BinOp a .Add b pos) (tAdd ta tb) := by
  intro pins s σ H Q I h
  refine wpAny_BinOp (bin ha hb I h fun v u s2 x y H2 I2 rx ry q => ?_)
  obtain ⟨i, j, rfl, rfl, q⟩ := q
  obtain ⟨t, rfl⟩ := rx
  obtain ⟨t', rfl⟩ := ry
  exact add_int ⟨.int _, H2, I2.tok _, ⟨_, rfl⟩, q⟩
theorem pe_sub (ha : PE X a ta) (hb : PE X b tb) : PE X (.BinOp a .Sub b pos) (tSub ta tb) := by
  intro pins s σ H Q I h
  refine wpAny_BinOp (bin ha hb I h fun v u s2 x y H2 I2 rx ry q => ?_)
  obtain ⟨i, j, rfl, rfl, q⟩ := q
  obtain ⟨t, rfl⟩ := rx
  obtain ⟨t', rfl⟩ := ry
  exact sub_int ⟨.int _, H2, I2.tok _, ⟨_, rfl⟩, q⟩
theorem pe_mul (ha : PE X a ta) (hb : PE X b tb) : PE X (.BinOp a .Mult b pos) (tMul ta tb) := by
  intro pins s σ H Q I h
  refine wpAny_BinOp (bin ha hb I h fun v u s2 x y H2 I2 rx ry q => ?_)
  obtain ⟨i, j, rfl, rfl, ⟨q1, q2⟩, q⟩ := q
  obtain ⟨t, rfl⟩ := rx
  obtain ⟨t', rfl⟩ := ry
  exact mul_int ⟨.int _, H2, I2.tok _, ⟨_, rfl⟩, q⟩ (.of_left (intBits_le_64 q1 q2))

/-! ### comparisons -/
def PC (X : Cx) (op : CmpOp) (a b : Expr) (t : TE) : Prop :=
  ∀ (pins : List (Addr × Obj)) (s : Shared) (σ : St) (H : Hp) (Q : VK), Inv X pins σ H s → t σ H Q →
    wpAny (model X.prog X.w) X.A (eval a X.env) (fun v s₁ => wpAny (model X.prog X.w) X.A (eval b X.env) (fun u s₂ => wpAny (model X.prog X.w) X.A (compareOp op v u) (EP X pins σ Q) X.xe s₂) X.xe s₁) X.xe s
theorem nobehind (b : Expr) {op : CmpOp} (h : op ≠ .In) (h2 : op ≠ .NotIn) : behindInMarks op b = false := by
  have e1 : (op == CmpOp.In) = false := by cases op <;> first | rfl | exact absurd rfl h
  have e2 : (op == CmpOp.NotIn) = false := by cases op <;> first | rfl | exact absurd rfl h2
  cases b <;> simp [behindInMarks, e1, e2]
def tCmp (p : Int → Int → Bool) (ta tb : TE) : TE := fun σ H Q => t2I ta tb (fun i j H2 => Q (.bl (p i j)) H2) σ H
abbrev tLt : TE → TE → TE := tCmp fun i j => decide (i < j)
abbrev tLe : TE → TE → TE := tCmp fun i j => decide (i ≤ j)
abbrev tGt : TE → TE → TE := tCmp fun i j => decide (j < i)
abbrev tGe : TE → TE → TE := tCmp fun i j => decide (j ≤ i)
abbrev tEqI : TE → TE → TE := tCmp fun i j => decide (i = j)
abbrev tNeI : TE → TE → TE := tCmp fun i j => !decide (i = j)
/-- a comparison of two ints, by its rule -/
theorem pc_int {op : CmpOp} {p : Int → Int → Bool} (ha : PE X a ta) (hb : PE X b tb)
    (rule : ∀ (i j : Int) (t u : Tok) (Q : Value → Shared → Prop) (s : Shared), Q (.bool (p i j)) s → wpAny (model X.prog X.w) X.A (compareOp op (.int i t) (.int j u)) Q X.xe s) : PC X op a b (tCmp p ta tb) := by
  intro pins s σ H Q I h
  refine bin ha hb I h fun v u s2 x y H2 I2 rx ry q => ?_
  obtain ⟨i, j, rfl, rfl, q⟩ := q
  obtain ⟨t, rfl⟩ := rx
  obtain ⟨t', rfl⟩ := ry
  exact rule i j t t' _ s2 ⟨.bl _, H2, I2, rfl, q⟩
theorem pc_lt (ha : PE X a ta) (hb : PE X b tb) : PC X .Lt a b (tLt ta tb) := pc_int ha hb fun _ _ _ _ _ _ h => lt_int h
theorem pc_le (ha : PE X a ta) (hb : PE X b tb) : PC X .LtE a b (tLe ta tb) := pc_int ha hb fun _ _ _ _ _ _ h => le_int h
theorem pc_gt (ha : PE X a ta) (hb : PE X b tb) : PC X .Gt a b (tGt ta tb) := pc_int ha hb fun _ _ _ _ _ _ h => gt_int h
theorem pc_ge (ha : PE X a ta) (hb : PE X b tb) : PC X .GtE a b (tGe ta tb) := pc_int ha hb fun _ _ _ _ _ _ h => ge_int h
theorem pc_eqI (ha : PE X a ta) (hb : PE X b tb) : PC X .Eq a b (tEqI ta tb) := pc_int ha hb fun _ _ _ _ _ _ h => eq_int (by rw [Bool.beq_eq_decide_eq]; exact h)
theorem pc_neI (ha : PE X a ta) (hb : PE X b tb) : PC X .NotEq a b (tNeI ta tb) := pc_int ha hb fun _ _ _ _ _ _ h => ne_int (by rw [bne, Bool.beq_eq_decide_eq]; exact h)
/-- is None -/
def tIsN (ta : TE) : TE := fun σ H Q => ta σ H fun x H1 => Q (.bl (decide (x = .non))) H1
def tNotN (ta : TE) : TE := fun σ H Q => ta σ H fun x H1 => Q (.bl (!decide (x = .non))) H1
theorem RelV.none_iff {x : V} {v : Value} (r : RelV x v) : (v == Value.none) = decide (x = .non) := by
  cases x with
  | non => cases r; rfl
  | bl _ => cases r; rfl
  | int _ => obtain ⟨t, rfl⟩ := r; rfl
  | str _ => obtain ⟨t, rfl⟩ := r; rfl
  | byt _ => obtain ⟨t, rfl⟩ := r; rfl
  | flt _ => obtain ⟨t, rfl⟩ := r; rfl
  | ref _ => cases r; rfl
  | ty _ => cases r; rfl
theorem pc_isN {j pos'} (ha : PE X a ta) : PC X .Is a (.Constant .none j pos') (tIsN ta) := by
  intro pins s σ H Q I h
  refine thn (ha pins s σ H _ I h) fun v s1 ⟨x, H1, I1, r1, q1⟩ => ?_
  exact Constant_none (is_none_gen ⟨.bl _, H1, I1, by rw [r1.none_iff]; rfl, q1⟩)
theorem pc_notN {j pos'} (ha : PE X a ta) : PC X .IsNot a (.Constant .none j pos') (tNotN ta) := by
  intro pins s σ H Q I h
  refine thn (ha pins s σ H _ I h) fun v s1 ⟨x, H1, I1, r1, q1⟩ => ?_
  exact Constant_none (isnot_none_gen ⟨.bl _, H1, I1, by rw [r1.none_iff]; rfl, q1⟩)
/-- a comparison as a value, as a test -/
def tB (t : TE) : TT := fun σ H Q => t σ H fun x H1 => ∃ c, x = .bl c ∧ Q c H1
theorem pe_cmp {op : CmpOp} {t : TE} (h : PC X op a b t) (h1 : behindInMarks op b = false := by first | exact nobehind _ (by decide) (by decide) | rfl) : PE X (.Compare a [op] [b] pos) t := fun pins s σ H Q I hw => wpAny_Compare1 (h pins s σ H Q I hw) h1
theorem pt_cmp {op : CmpOp} {t : TE} (h : PC X op a b t) (h1 : behindInMarks op b = false := by first | exact nobehind _ (by decide) (by decide) | rfl) : PT X (.Compare a [op] [b] pos) (tB t) := by
  intro pins s σ H Q I hw
  refine wpAny_isTrue_Compare1 (thn (h pins s σ H _ I hw) fun v s1 h1 => thn h1 fun u s2 h2 => thn h2 fun c s3 ⟨x, H1, I1, r1, q1⟩ => ?_) h1
  obtain ⟨d, rfl, q⟩ := q1
  cases r1
  exact wpAny_truthy_bool ⟨H1, I1, q⟩
/-- an expression whose value is a bool, as a test -/
theorem pt_val {e : Expr} {t : TE} (h : PE X e t) (he : ∀ whole, isTrue e X.env whole = (do let v ← whole; standAt e.pos; holding [v] (truthy v)) := by intro _; rfl) : PT X e (tB t) := by
  intro pins s σ H Q I hw
  refine isTrue_plain (thn (h pins s σ H _ I hw) fun v s1 ⟨x, H1, I1, r1, q1⟩ => ?_) (he _)
  obtain ⟨d, rfl, q⟩ := q1
  cases r1
  exact wpAny_truthy_bool ⟨H1, I1, q⟩

/-! ### and, or, not -/
variable {tA tB' : TT} {rest : List Expr}
def tAnd (t u : TT) : TT := fun σ H Q => t σ H fun c H1 => if c = true then u σ H1 Q else Q false H1
def tOr (t u : TT) : TT := fun σ H Q => t σ H fun c H1 => if c = true then Q true H1 else u σ H1 Q
def tNot (t : TT) : TT := fun σ H Q => t σ H fun c H1 => Q (!c) H1
theorem pw_and1 (ha : PT X a tA) : PW X (.BoolOp .And [a] pos) tA := by
  intro wh pins s σ H Q I h
  refine isTrue_and (thn (ha pins s σ H Q I h) fun c s1 e => ?_)
  cases c with
  | true => exact isTrue_and_nil e
  | false => exact e
theorem pw_or1 (ha : PT X a tA) : PW X (.BoolOp .Or [a] pos) tA := by
  intro wh pins s σ H Q I h
  refine isTrue_or (thn (ha pins s σ H Q I h) fun c s1 e => ?_)
  cases c with
  | false => exact isTrue_or_nil e
  | true => exact e
theorem pw_and (ha : PT X a tA) (hb : PW X (.BoolOp .And (b :: rest) pos) tB') : PW X (.BoolOp .And (a :: b :: rest) pos) (tAnd tA tB') := by
  intro wh pins s σ H Q I h
  refine isTrue_and (thn (ha pins s σ H _ I h) fun c s1 ⟨H1, I1, q1⟩ => ?_)
  cases c with
  | true => exact hb wh pins s1 σ H1 Q I1 q1
  | false => exact ⟨H1, I1, q1⟩
theorem pw_or (ha : PT X a tA) (hb : PW X (.BoolOp .Or (b :: rest) pos) tB') : PW X (.BoolOp .Or (a :: b :: rest) pos) (tOr tA tB') := by
  intro wh pins s σ H Q I h
  refine isTrue_or (thn (ha pins s σ H _ I h) fun c s1 ⟨H1, I1, q1⟩ => ?_)
  cases c with
  | true => exact ⟨H1, I1, q1⟩
  | false => exact hb wh pins s1 σ H1 Q I1 q1
theorem pt_not (ha : PT X a tA) : PT X (.UnaryOp .Not a pos) (tNot tA) := by
  intro pins s σ H Q I h
  exact isTrue_not (ha pins s σ H (fun c H1 => Q (!c) H1) I h)
/-- .. as values (bools) -/
def tAndV (ta tb : TE) : TE := fun σ H Q => ta σ H fun x H1 => ∃ c, x = .bl c ∧ if c = true then tb σ H1 Q else Q (.bl false) H1
def tOrV (ta tb : TE) : TE := fun σ H Q => ta σ H fun x H1 => ∃ c, x = .bl c ∧ if c = true then Q (.bl true) H1 else tb σ H1 Q
def tNotV (ta : TE) : TE := fun σ H Q => ta σ H fun x H1 => ∃ c, x = .bl c ∧ Q (.bl (!c)) H1
theorem pe_one {op} {t : TE} (h : PE X a t) : PE X (.BoolOp op [a] pos) t := fun pins s σ H Q I hw => BoolOp_one (h pins s σ H Q I hw)
theorem pe_and (ha : PE X a ta) (hb : PE X (.BoolOp .And (b :: rest) pos) tb) : PE X (.BoolOp .And (a :: b :: rest) pos) (tAndV ta tb) := by
  intro pins s σ H Q I h
  refine BoolOp_and (thn (ha pins s σ H _ I h) fun v s1 ⟨x, H1, I1, r1, q1⟩ => ?_)
  obtain ⟨c, rfl, q1⟩ := q1
  cases r1
  refine wpAny_truthy_bool ?_
  cases c with
  | true => exact hb pins s1 σ H1 Q I1 q1
  | false => exact ⟨.bl false, H1, I1, rfl, q1⟩
theorem pe_or (ha : PE X a ta) (hb : PE X (.BoolOp .Or (b :: rest) pos) tb) : PE X (.BoolOp .Or (a :: b :: rest) pos) (tOrV ta tb) := by
  intro pins s σ H Q I h
  refine BoolOp_or (thn (ha pins s σ H _ I h) fun v s1 ⟨x, H1, I1, r1, q1⟩ => ?_)
  obtain ⟨c, rfl, q1⟩ := q1
  cases r1
  refine wpAny_truthy_bool ?_
  cases c with
  | false => exact hb pins s1 σ H1 Q I1 q1
  | true => exact ⟨.bl true, H1, I1, rfl, q1⟩
theorem pe_not (ha : PE X a ta) : PE X (.UnaryOp .Not a pos) (tNotV ta) := by
  intro pins s σ H Q I h
  refine UnaryOp_ (thn (ha pins s σ H _ I h) fun v s1 ⟨x, H1, I1, r1, q1⟩ => ?_)
  obtain ⟨c, rfl, q1⟩ := q1
  cases r1
  exact not_of (wpAny_truthy_bool ⟨.bl (!c), H1, I1, rfl, q1⟩)
/-- a if t else b -/
def tIf (t : TT) (ta tb : TE) : TE := fun σ H Q => t σ H fun c H1 => if c = true then ta σ H1 Q else tb σ H1 Q
theorem pe_ifExp {c : Expr} (hc : PT X c tA) (ha : PE X a ta) (hb : PE X b tb) : PE X (.IfExp c a b pos) (tIf tA ta tb) := by
  intro pins s σ H Q I h
  refine wpAny_IfExp (thn (hc pins s σ H _ I h) fun d s1 ⟨H1, I1, q1⟩ => ?_)
  cases d with
  | true => exact ha pins s1 σ H1 Q I1 q1
  | false => exact hb pins s1 σ H1 Q I1 q1
end
end L2

namespace L2
open PySem PySem.Spec PyProof.Rows

/-! ### a list, a tuple that is read: tracked, frozen, or an object of the module -/
def SqL (K : PySem.W.Frag) (H : Hp) (a : Addr) (xs : List V) : Prop :=
  Rd H a (.lst xs) ∨
    ∃ (o : Obj) (its : Array Value) (n : Nat), K.lookup a = some o ∧ o.cls = .type "list" ∧ o.dict = none ∧ o.data = .seq its n ∧ its.size ≤ sizeLine ∧ Vals xs its.toList
def SqT (K : PySem.W.Frag) (H : Hp) (a : Addr) (xs : List V) : Prop :=
  Rd H a (.tup xs) ∨
    ∃ (o : Obj) (its : Array Value) (n : Nat), K.lookup a = some o ∧ o.cls = .type "tuple" ∧ o.data = .seq its n ∧ its.size ≤ sizeLine ∧ Vals xs its.toList
def absV : Value → Option V
  | .none => some .non
  | .bool b => some (.bl b)
  | .int i _ => some (.int i)
  | .str x _ => some (.str x)
  | .bytes b _ => some (.byt b)
  | .float b _ => some (.flt b)
  | .ref a => some (.ref a)
  | .type n => some (.ty n)
  | _ => none
theorem RelV.abs {x : V} {u : Value} (r : RelV x u) : absV u = some x := by
  cases x with
  | non => cases r; rfl
  | bl _ => cases r; rfl
  | int _ => obtain ⟨t, rfl⟩ := r; rfl
  | str _ => obtain ⟨t, rfl⟩ := r; rfl
  | byt _ => obtain ⟨t, rfl⟩ := r; rfl
  | flt _ => obtain ⟨t, rfl⟩ := r; rfl
  | ref _ => cases r; rfl
  | ty _ => cases r; rfl
theorem RelV.inj {x y : V} {u : Value} (r : RelV x u) (q : RelV y u) : x = y := Option.some.inj (r.abs.symm.trans q.abs)
theorem Vals.inj : ∀ {xs ys : List V} {us : List Value}, Vals xs us → Vals ys us → xs = ys
  | _, _, _, .nil, .nil => rfl
  | _, _, _, .cons r t, .cons r' t' => by rw [r.inj r', Vals.inj t t']
section
variable {X : Cx} {pins : List (Addr × Obj)} {σ : St} {H : Hp} {s : Shared} {a : Addr} {xs ys : List V}
theorem SqL.of {K : PySem.W.Frag} (h : H a = some (.lst xs)) : SqL K H a xs := .inl (.inl h)
theorem SqT.of {K : PySem.W.Frag} (h : H a = some (.tup xs)) : SqT K H a xs := .inl (.inl h)
theorem Inv.list (I : Inv X pins σ H s) (h : SqL X.K H a xs) : ∃ its : List Value, Vals xs its ∧ PlainL s.heap a its.toArray ∧ xs.length ≤ sizeLine := by
  rcases h with h | ⟨o, its, n, hk, hc, hd, hs, hz, r⟩
  · obtain ⟨z, its, n, r, e⟩ := h.ok I.hok
    exact ⟨its, r, ⟨_, n, e, rfl, rfl, rfl⟩, z⟩
  · refine ⟨its.toList, r, ⟨o, n, I.kIn a o hk, hc, hd, by simpa using hs⟩, ?_⟩
    have e := r.length
    simp only [Array.length_toList] at e
    omega
theorem Inv.tuple (I : Inv X pins σ H s) (h : SqT X.K H a xs) : ∃ its : List Value, Vals xs its ∧ IsTup s.heap a its.toArray ∧ xs.length ≤ sizeLine := by
  rcases h with h | ⟨o, its, n, hk, hc, hs, hz, r⟩
  · obtain ⟨z, its, r, p⟩ := h.ok I.hok
    exact ⟨its, r, p, z⟩
  · refine ⟨its.toList, r, ⟨o, I.kIn a o hk, hc, n, by simpa using hs⟩, ?_⟩
    have e := r.length
    simp only [Array.length_toList] at e
    omega
theorem Inv.list_inj (I : Inv X pins σ H s) (h : SqL X.K H a xs) (h' : SqL X.K H a ys) : xs = ys := by
  obtain ⟨its, r, ⟨o, n, e, _, _, d⟩, _⟩ := I.list h
  obtain ⟨its', r', ⟨o', n', e', _, _, d'⟩, _⟩ := I.list h'
  rw [e] at e'; cases e'
  rw [d] at d'
  injection d' with d1 _
  have : its = its' := by simpa using congrArg Array.toList d1
  subst this
  exact r.inj r'
theorem Inv.tuple_inj (I : Inv X pins σ H s) (h : SqT X.K H a xs) (h' : SqT X.K H a ys) : xs = ys := by
  obtain ⟨its, r, ⟨o, e, _, n, d⟩, _⟩ := I.tuple h
  obtain ⟨its', r', ⟨o', e', _, n', d'⟩, _⟩ := I.tuple h'
  rw [e] at e'; cases e'
  rw [d] at d'
  injection d' with d1 _
  have : its = its' := by simpa using congrArg Array.toList d1
  subst this
  exact r.inj r'
end

/-! ### another wish about exceptions -/
abbrev Cx.wish (X : Cx) (E : Value → Shared → Prop) : Cx := { X with xe := E }
/-- no exception leaves -/
abbrev Cx.nox (X : Cx) : Cx := X.wish fun _ _ => False
theorem Cx.Ok.wish {X : Cx} (ok : X.Ok) (E : Value → Shared → Prop) : (X.wish E).Ok :=
  ⟨ok.mod, ok.kind, ok.glob, ok.blt, ok.above, ok.inj, ok.has, ok.cab, ok.hd, ok.frames, ok.stk, ok.exf, ok.bs, ok.bsz, ok.noex, ok.exfs, ok.funs, ok.frf⟩
theorem Cx.Ok.unwish {X : Cx} {E : Value → Shared → Prop} (ok : (X.wish E).Ok) : X.Ok :=
  ⟨ok.mod, ok.kind, ok.glob, ok.blt, ok.above, ok.inj, ok.has, ok.cab, ok.hd, ok.frames, ok.stk, ok.exf, ok.bs, ok.bsz, ok.noex, ok.exfs, ok.funs, ok.frf⟩
section
variable {X : Cx} {pins : List (Addr × Obj)} {σ : St} {H : Hp} {s : Shared} {E : Value → Shared → Prop}
theorem Inv.wish (I : Inv X pins σ H s) (E : Value → Shared → Prop) : Inv (X.wish E) pins σ H s := ⟨I.ok.wish E, I.os, I.bare, I.base, I.loc, I.cell, I.free, I.freeC, I.pin, I.hok, I.len⟩
theorem Inv.unwish (I : Inv (X.wish E) pins σ H s) : Inv X pins σ H s := ⟨I.ok.unwish, I.os, I.bare, I.base, I.loc, I.cell, I.free, I.freeC, I.pin, I.hok, I.len⟩
theorem SP.unwish {D : Ends} {f : Flow} {s' : Shared} (h : SP (X.wish E) pins D f s') : SP X pins D f s' := by
  cases f with
  | next => obtain ⟨σ', H', I, q⟩ := h; exact ⟨σ', H', I.unwish, q⟩
  | brk => obtain ⟨σ', H', I, q⟩ := h; exact ⟨σ', H', I.unwish, q⟩
  | cont => obtain ⟨σ', H', I, q⟩ := h; exact ⟨σ', H', I.unwish, q⟩
  | ret u => obtain ⟨v, σ', H', I, r, q⟩ := h; exact ⟨v, σ', H', I.unwish, r, q⟩
theorem PE.nox {e : Expr} {t : TE} (h : PE X.nox e t) : PE X e t := fun pins s σ H Q I hw =>
  wpAny_mono (h pins s σ H Q (I.wish _) hw) (fun _ _ ⟨v, H', I', r, q⟩ => ⟨v, H', I'.unwish, r, q⟩) fun _ _ z => False.elim z
theorem PT.nox {e : Expr} {t : TT} (h : PT X.nox e t) : PT X e t := fun pins s σ H Q I hw =>
  wpAny_mono (h pins s σ H Q (I.wish _) hw) (fun _ _ ⟨H', I', q⟩ => ⟨H', I'.unwish, q⟩) fun _ _ z => False.elim z
theorem PSs.nox {st : List Stmt} {t : TS} (h : PSs X.nox st t) : PSs X st t := fun pins s σ H D I hw =>
  wpAny_mono (h pins s σ H D (I.wish _) hw) (fun _ _ q => q.unwish) fun _ _ z => False.elim z
end

/-! ### blocks and small statements -/
section
variable {X : Cx} {st : Stmt} {rest : List Stmt} {t u : TS} {e : Expr} {te : TE} {pos : Pos}
def tNext : TS := fun D σ H => D.nx σ H
def tSeq (t u : TS) : TS := fun D σ H => t { D with nx := u D } σ H
theorem pss_nil : PSs X [] tNext := fun _ _ σ H _ I h => wpAny_execs_nil ⟨σ, H, I, h⟩
theorem pss_cons (h1 : PS X st t) (h2 : PSs X rest u) : PSs X (st :: rest) (tSeq t u) := by
  intro pins s σ H D I h
  refine wpAny_execs_cons (thn (h1 pins s σ H { D with nx := u D } I h) fun f s1 q => ?_)
  cases f with
  | next =>
    obtain ⟨σ', H', I', q⟩ := q
    exact h2 pins s1 σ' H' D I' q
  | ret v => exact q
  | brk => exact q
  | cont => exact q
theorem pss_one (h1 : PS X st t) : PSs X [st] t := by
  intro pins s σ H D I h
  refine wpAny_execs_cons (thn (h1 pins s σ H D I h) fun f s1 q => ?_)
  cases f with
  | next => exact wpAny_execs_nil q
  | ret v => exact q
  | brk => exact q
  | cont => exact q
def tBreak : TS := fun D σ H => D.bk σ H
def tCont : TS := fun D σ H => D.ct σ H
theorem ps_pass : PS X (.Pass pos) tNext := fun _ _ σ H _ I h => wpAny_Pass ⟨σ, H, I, h⟩
theorem ps_break : PS X (.Break pos) tBreak := fun _ _ σ H _ I h => wpAny_Break ⟨σ, H, I, h⟩
theorem ps_continue : PS X (.Continue pos) tCont := fun _ _ σ H _ I h => wpAny_Continue ⟨σ, H, I, h⟩
/-- in a def's body nothing is shown -/
theorem Inv.quiet {pins : List (Addr × Obj)} {σ : St} {H : Hp} {s : Shared} (I : Inv X pins σ H s) : interactive X.env = false := by simp [interactive, I.ok.kind]
/-- a docstring -/
theorem ps_doc {x j pos pos'} : PS X (.Expr (.Constant (.str x) j pos) pos') tNext := fun _ s σ H _ I h => wpAny_Expr (Calls.Constant_str (show SP X _ _ .next { s with toks := s.toks + 1 } from ⟨σ, H, I.tok _, h⟩)) I.quiet
/-- an expression whose value is dropped -/
def tDrop (te : TE) : TS := fun D σ H => te σ H fun _ H1 => D.nx σ H1
theorem ps_expr (he : PE X e te) (hs : swapsWith e none pos.line X.env = pure false := by rfl) : PS X (.Expr e pos) (tDrop te) := by
  intro pins s σ H D I h
  exact wpAny_Expr_any (thn (he pins s σ H _ I h) fun v s1 ⟨x, H1, I1, r1, q1⟩ => ⟨σ, H1, I1, q1⟩) I.quiet hs
def tRet (te : TE) : TS := fun D σ H => te σ H D.rt
theorem ps_ret (he : PE X e te) : PS X (.Return (some e) pos) (tRet te) := by
  intro pins s σ H D I h
  exact wpAny_Return_some (thn (he pins s σ H _ I h) fun v s1 ⟨x, H1, I1, r1, q1⟩ => ⟨x, σ, H1, I1, r1, q1⟩)
def tRetN : TS := fun D _ H => D.rt .non H
theorem ps_retN : PS X (.Return none pos) tRetN := fun _ _ σ H _ I h => wpAny_Return_none ⟨.non, σ, H, I, rfl, h⟩
def tIfS (c : TT) (t u : TS) : TS := fun D σ H => c σ H fun b H1 => if b = true then t D σ H1 else u D σ H1
theorem ps_if {c : Expr} {a b : List Stmt} {tc : TT} (hc : PT X c tc) (ha : PSs X a t) (hb : PSs X b u) : PS X (.If c a b pos) (tIfS tc t u) := by
  intro pins s σ H D I h
  refine wpAny_If (thn (hc pins s σ H _ I h) fun d s1 ⟨H1, I1, q1⟩ => ?_)
  cases d with
  | true => exact ha pins s1 σ H1 D I1 q1
  | false => exact hb pins s1 σ H1 D I1 q1
/-- code that the proof never comes to -/
def tNever : TS := fun _ _ _ => False
theorem ps_never : PS X st tNever := fun _ _ _ _ _ _ h => h.elim
theorem pss_never {sts : List Stmt} : PSs X sts tNever := fun _ _ _ _ _ _ h => h.elim
end

/-! ### targets -/
abbrev TG := V → St → Hp → (St → Hp → Prop) → Prop
abbrev TGs := List V → St → Hp → (St → Hp → Prop) → Prop
def PG (X : Cx) (target : Expr) (t : TG) : Prop :=
  ∀ (pins : List (Addr × Obj)) (s : Shared) (σ : St) (H : Hp) (v : V) (u : Value) (Q : St → Hp → Prop), Inv X pins σ H s → RelV v u → t v σ H Q →
    wpAny (model X.prog X.w) X.A (assign target X.env u) (fun _ s' => ∃ σ' H', Inv X pins σ' H' s' ∧ Q σ' H') X.xe s
/-- several targets, one after another -/
def PGs (X : Cx) (ts : List Expr) (t : TGs) : Prop :=
  ∀ (pins : List (Addr × Obj)) (s : Shared) (σ : St) (H : Hp) (vs : List V) (us : List Value) (Q : St → Hp → Prop), Inv X pins σ H s → Vals vs us → t vs σ H Q →
    wpAny (model X.prog X.w) X.A (assignInOrder ((assignEach ts X.env).map (·.2)) us) (fun _ s' => ∃ σ' H', Inv X pins σ' H' s' ∧ Q σ' H') X.xe s
/-- o[i] = v, by values -/
abbrev TSet := V → V → V → Hp → (Hp → Prop) → Prop
def PSet (X : Cx) (t : TSet) : Prop :=
  ∀ (pins : List (Addr × Obj)) (s : Shared) (σ : St) (H : Hp) (o i v : V) (ov iv u : Value) (Q : Hp → Prop), Inv X pins σ H s → RelV o ov → RelV i iv → RelV v u → t o i v H Q →
    wpAny (model X.prog X.w) X.A (setItem ov iv u) (fun _ s' => ∃ H', Inv X pins σ H' s' ∧ Q H') X.xe s
/-- a op= b, by values -/
abbrev TIp := V → V → Hp → VK → Prop
def PIp (X : Cx) (op : Operator) (t : TIp) : Prop :=
  ∀ (pins : List (Addr × Obj)) (s : Shared) (σ : St) (H : Hp) (x y : V) (v u : Value) (Q : VK), Inv X pins σ H s → RelV x v → RelV y u → t x y H Q →
    wpAny (model X.prog X.w) X.A (inplaceOp op v u) (EP X pins σ Q) X.xe s
section
variable {X : Cx} {pos : Pos}
def gName (i : Nat) : TG := fun v σ H Q => Q (σ.set i (some v)) H
theorem pg_name {i : Nat} {x : Str} (hN : X.N.Nodup) (hi : X.N[i]? = some x) (hx : Loc X.env.scope x) (hf : X.fn x = true ∨ X.env.scope.names.lookup x = some .local := by first | exact .inl rfl | exact .inr rfl | assumption) : PG X (.Name x pos) (gName i) := by
  intro pins s σ H v u Q I r h
  exact wpAny_assign_Name (store_ok I hN hi hx r (fun s' I' => ⟨_, H, I', h⟩) hf)
def gNil : TGs := fun vs σ H Q => vs = [] ∧ Q σ H
def gCons (t : TG) (u : TGs) : TGs := fun vs σ H Q => ∃ v r, vs = v :: r ∧ t v σ H fun σ' H' => u r σ' H' Q
theorem pgs_nil : PGs X [] gNil := by
  intro pins s σ H vs us Q I r h
  obtain ⟨e, h⟩ := h
  subst e
  cases r
  exact assignInOrder_nil ⟨σ, H, I, h⟩
theorem pgs_cons {e : Expr} {es : List Expr} {t : TG} {u : TGs} (h1 : PG X e t) (h2 : PGs X es u)
    (hs : (assignEach (e :: es) X.env).map (·.2) = assign e X.env :: (assignEach es X.env).map (·.2) := by rfl) : PGs X (e :: es) (gCons t u) := by
  intro pins s σ H vs us Q I r h
  obtain ⟨v, vr, e1, h⟩ := h
  subst e1
  cases r with
  | cons r rr =>
    rw [hs]
    refine assignInOrder_cons (thn (h1 pins s σ H _ _ _ I r h) fun _ s1 ⟨σ1, H1, I1, q1⟩ => ?_)
    exact h2 pins s1 σ1 H1 _ _ Q I1 rr q1
/-- (a, b, ..) = a tuple of that length -/
def gTup (K : PySem.W.Frag) (n : Nat) (t : TGs) : TG := fun v σ H Q => ∃ a xs, v = .ref a ∧ SqT K H a xs ∧ xs.length = n ∧ t xs σ H Q
theorem pg_tup {es : List Expr} {k : Nat} {t : TGs} {n : Nat} (hc : X.calm = true) (h : PGs X es t)
    (hn : (assignEach es X.env).length = n := by rfl) (hst : (assignEach es X.env).findIdx? (·.1) = none := by rfl) : PG X (.Tuple es k pos) (gTup X.K n t) := by
  intro pins s σ H v u Q I r hw
  obtain ⟨a, xs, e1, hq, hl, hw⟩ := hw
  subst e1
  cases r
  obtain ⟨its, rv, ht, hz⟩ := I.tuple hq
  refine assign_Tuple_tuple (I.ok.hd hc) ht (by simp [hn, ← hl, rv.length]) hst fun h' hx => ?_
  have I1 : Inv X pins σ H { s with heap := h' } := I.kept (t' := s.toks) fun b o e => hx b o (Nat.ne_of_lt (Heap.lt_size e)) e
  exact h pins _ σ H xs _ Q I1 (by simpa using rv) hw
/-- o[i] = .. -/
def gSub (to ti : TE) (t : TSet) : TG := fun v σ H Q => to σ H fun o H1 => ti σ H1 fun i H2 => t o i v H2 fun H3 => Q σ H3
theorem pg_sub {o i : Expr} {to ti : TE} {t : TSet} (ho : PE X o to) (hi : PE X i ti) (hs : PSet X t)
    (ha : ∀ v, assign (.Subscript o i pos) X.env v = (do
      let ov ← holding [v] (eval o X.env)
      let iv ← holding [v, ov] (eval i X.env)
      standAt pos
      holding [v, ov, iv] (setItem ov iv v)
      release [v, ov, iv] []) := by intro _; rfl) : PG X (.Subscript o i pos) (gSub to ti t) := by
  intro pins s σ H v u Q I r h
  rw [ha]
  refine wpAny_bind (wpAny_holding (thn (ho pins s σ H _ I h) fun ov s1 ⟨x, H1, I1, r1, q1⟩ => ?_))
  refine wpAny_bind (wpAny_holding (thn (hi pins s1 σ H1 _ I1 q1) fun iv s2 ⟨y, H2, I2, r2, q2⟩ => ?_))
  refine wpAny_bind (wpAny_standAt (wpAny_bind (wpAny_holding (thn (hs pins s2 σ H2 x y v ov iv u _ I2 r1 r2 r q2) fun _ s3 ⟨H3, I3, q3⟩ => ?_))))
  exact wpAny_release ⟨σ, H3, I3, q3⟩
/-- target = value -/
def tAsg (te : TE) (g : TG) : TS := fun D σ H => te σ H fun x H1 => g x σ H1 D.nx
theorem ps_asg {tg e : Expr} {te : TE} {g : TG} (he : PE X e te) (hg : PG X tg g) (hs : swapsWithSole [tg] e pos.line X.env = pure false := by rfl) (hw : swappedStores [tg] e X.env = pure none := by rfl)
    (h1 : (assignEach [tg] X.env).map (·.2) = [assign tg X.env] := by rfl) : PS X (.Assign [tg] e pos) (tAsg te g) := by
  intro pins s σ H D I h
  refine wpAny_Assign_stores (thn (he pins s σ H _ I h) fun v s1 ⟨x, H1, I1, r1, q1⟩ => ?_) hs hw
  rw [h1]
  exact thn (hg pins s1 σ H1 x v _ I1 r1 q1) fun _ s2 q => q
/-- name = value -/
theorem ps_set {i : Nat} {x : Str} {e : Expr} {te : TE} {pos' : Pos} (hN : X.N.Nodup) (hi : X.N[i]? = some x) (hx : Loc X.env.scope x) (he : PE X e te) (hs : swapsWith e (some (.Name x pos')) pos.line X.env = pure false := by rfl) (hf : X.fn x = true ∨ X.env.scope.names.lookup x = some .local := by first | exact .inl rfl | exact .inr rfl | assumption) :
    PS X (.Assign [.Name x pos'] e pos) (tAsg te (gName i)) := by
  intro pins s σ H D I h
  refine wpAny_Assign_Name (thn (he pins s σ H _ I h) fun v s1 ⟨y, H1, I1, r1, q1⟩ => ?_) hs
  exact store_ok I1 hN hi hx r1 (fun s2 I2 => ⟨_, H1, I2, q1⟩) hf
/-- a, b = x, y with plain local names: stored from the right; the pair itself is not tracked (the opening rows as in PyProof/Rows/TupAssign.lean:23) -/
def tPar (i j : Nat) (ta : TA) : TS := fun D σ H => ta σ H fun vs H1 => ∃ v w, vs = [v, w] ∧ D.nx ((σ.set i (some v)).set j (some w)) H1
theorem ps_par {i j : Nat} {x y : Str} {a b : Expr} {ta : TA} {px py pt : Pos} {kt k2 pt2} (hc : X.calm = true) (hN : X.N.Nodup) (hi : X.N[i]? = some x) (hj : X.N[j]? = some y) (hij : i ≠ j)
    (hx : X.env.scope.names.lookup x = some .local) (hy : X.env.scope.names.lookup y = some .local) (ha : PA X [a, b] ta)
    (hw : swappedStores [.Tuple [.Name x px, .Name y py] kt pt] (.Tuple [a, b] k2 pt2) X.env = pure (some [x, y]))
    (hs : swapsWithSole [.Tuple [.Name x px, .Name y py] kt pt] (.Tuple [a, b] k2 pt2) pos.line X.env = pure false := by rfl) :
    PS X (.Assign [.Tuple [.Name x px, .Name y py] kt pt] (.Tuple [a, b] k2 pt2) pos) (tPar i j ta) := by
  intro pins s σ H D I h
  rw [exec_Assign_arm]
  refine wpAny_bind (wpAny_standAt ?_)
  rw [hs]
  refine wpAny_bind (wpAny_pure ?_)
  rw [if_neg (by decide)]
  refine wpAny_bind (Tuple_ (thn (ha _ pins s σ H _ I h) fun us s1 ⟨vs, H1, I1, r1, q1⟩ => ?_))
  obtain ⟨v, w, e1, q1⟩ := q1
  subst e1
  obtain ⟨u1, u2, rfl, rv, rw'⟩ : ∃ u1 u2, us = [u1, u2] ∧ RelV v u1 ∧ RelV w u2 := by
    cases r1 with
    | cons p q =>
      cases q with
      | cons p' q' =>
        cases q'
        exact ⟨_, _, rfl, p, p'⟩
  refine wpAny_newObj_type ?_ (by show 2 ≤ sizeLine; decide)
  have I2 : Inv X pins σ H1 { s1 with heap := s1.heap.push { cls := .type "tuple", data := .seq [u1, u2].toArray } } := I1.kept (t' := s1.toks) fun b o e => Heap.get?_push_of_some _ e
  rw [hw]
  refine wpAny_bind (wpAny_pure ?_)
  show wpAny (model X.prog X.w) X.A (do rule "assign.swapped-stores"; let items ← unpackItems (.ref s1.heap.objs.size) 2 none; assignInOrder [fun v => bindName X.env y v, fun v => bindName X.env x v] items.reverse; pure Flow.next) _ _ _
  refine wpAny_bind (wpAny_rule (wpAny_bind (unpackItems_tuple (items := #[u1, u2]) (I.ok.hd hc) (IsTup.new s1.heap _) fun h' hx' => ?_)))
  have I3 := I2.kept (h' := h') (t' := s1.toks) fun b o e => hx' b o (Nat.ne_of_lt (Heap.lt_size e)) e
  show wpAny _ _ (assignInOrder [fun v => bindName X.env y v, fun v => bindName X.env x v] [u2, u1] >>= fun _ => pure Flow.next) _ _ _
  refine wpAny_bind (assignInOrder_cons (wpAny_bindName (store_ok I3 hN hj (.inl hy) rw' (fun s2 I4 => ?_) (.inr hy))))
  refine assignInOrder_cons (wpAny_bindName (store_ok I4 hN hi (.inl hx) rv (fun s3 I5 => assignInOrder_nil (wpAny_pure ?_)) (.inr hx)))
  rw [List.set_comm _ _ (Ne.symm hij)] at I5
  exact ⟨_, H1, I5, q1⟩
/-- name op= e -/
def tAug (i : Nat) (te : TE) (ti : TIp) : TS := fun D σ H => ∃ x, σ[i]? = some (some x) ∧ te σ H fun y H1 => ti x y H1 fun z H2 => D.nx (σ.set i (some z)) H2
theorem ps_aug {i : Nat} {x : Str} {e : Expr} {te : TE} {op : Operator} {ti : TIp} {pos' : Pos} (hN : X.N.Nodup) (hi : X.N[i]? = some x) (hx : Loc X.env.scope x) (he : PE X e te) (ho : PIp X op ti) (hf : X.fn x = true ∨ X.env.scope.names.lookup x = some .local := by first | exact .inl rfl | exact .inr rfl | assumption) :
    PS X (.AugAssign (.Name x pos') op e pos) (tAug i te ti) := by
  intro pins s σ H D I h
  obtain ⟨v, e1, h⟩ := h
  obtain ⟨m, hn, hl⟩ := I.loc
  have vis : Vis X.env.scope x := by rcases hx with k | k; exact .inl k; exact .inr (.inl k)
  obtain ⟨u, r, l⟩ := hl i x v hi e1 vis
  refine wpAny_AugAssign_Name ?_
  have go : wpAny (model X.prog X.w) X.A (eval e X.env) (fun w s₂ => wpAny (model X.prog X.w) X.A (inplaceOp op u w) (fun r s₃ => wpAny (model X.prog X.w) X.A (storeName X.env x r) (fun _ => SP X pins D .next) X.xe s₃) X.xe s₂) X.xe s := by
    refine thn (he pins s σ H _ I h) fun w s1 ⟨y, H1, I1, r1, q1⟩ => ?_
    refine thn (ho pins s1 σ H1 v y u w _ I1 r r1 q1) fun z s2 ⟨zv, H2, I2, r2, q2⟩ => ?_
    exact store_ok I2 hN hi hx r2 (fun s3 I3 => ⟨_, H2, I3, q2⟩) hf
  rcases l with ⟨hk, hm⟩ | ⟨hk, c, hc, hcell⟩
  · exact wpAny_loadName_local I.ok.kind hk hn hm go
  · rcases hk with hk | hk
    · exact wpAny_loadName_cell I.ok.kind hk hc hcell go
    · rcases hx with k | k
      · have : X.env.scope.names.lookup x = some .free := hk
        rw [k] at this; cases this
      · have : X.env.scope.names.lookup x = some .free := hk
        rw [k] at this; cases this
/-- o[i] op= e -/
def tAugS (to ti te : TE) (tget : V → V → Hp → VK → Prop) (tip : TIp) (tset : TSet) : TS := fun D σ H => to σ H fun o H1 => ti σ H1 fun i H2 => tget o i H2 fun x H3 => te σ H3 fun y H4 => tip x y H4 fun z H5 => tset o i z H5 fun H6 => D.nx σ H6
/-- o[i], by values -/
def PGet (X : Cx) (t : V → V → Hp → VK → Prop) : Prop :=
  ∀ (pins : List (Addr × Obj)) (s : Shared) (σ : St) (H : Hp) (o i : V) (ov iv : Value) (Q : VK), Inv X pins σ H s → RelV o ov → RelV i iv → t o i H Q →
    wpAny (model X.prog X.w) X.A (getItem ov iv) (EP X pins σ Q) X.xe s
theorem ps_augS {o i e : Expr} {to ti te : TE} {tget : V → V → Hp → VK → Prop} {tip : TIp} {tset : TSet} {op : Operator} {tpos : Pos} (ho : PE X o to) (hi : PE X i ti) (hg : PGet X tget) (he : PE X e te) (hp : PIp X op tip) (hs : PSet X tset)
    (ha : ∀ ov iv new, augStore i ov iv new = (do holding [new, ov, iv] (setItem ov iv new); release [new, ov, iv] []; pure .next) := by intros; rfl) : PS X (.AugAssign (.Subscript o i tpos) op e pos) (tAugS to ti te tget tip tset) := by
  intro pins s σ H D I h
  refine wpAny_AugAssign_SubscriptAny (thn (ho pins s σ H _ I h) fun ov s1 ⟨x1, H1, I1, r1, q1⟩ => ?_) ha
  refine thn (hi pins s1 σ H1 _ I1 q1) fun iv s2 ⟨x2, H2, I2, r2, q2⟩ => ?_
  refine thn (hg pins s2 σ H2 x1 x2 ov iv _ I2 r1 r2 q2) fun old s3 ⟨x3, H3, I3, r3, q3⟩ => ?_
  refine thn (he pins s3 σ H3 _ I3 q3) fun v s4 ⟨x4, H4, I4, r4, q4⟩ => ?_
  refine thn (hp pins s4 σ H4 x3 x4 old v _ I4 r3 r4 q4) fun new s5 ⟨x5, H5, I5, r5, q5⟩ => ?_
  exact thn (hs pins s5 σ H5 x1 x2 x5 ov iv new _ I5 r1 r2 r5 q5) fun _ s6 ⟨H6, I6, q6⟩ => ⟨σ, H6, I6, q6⟩
/-- ints -/
def ipI (f : Int → Int → Int) : TIp := fun x y H Q => ∃ i j, x = .int i ∧ y = .int j ∧ Q (.int (f i j)) H
theorem ip_add : PIp X .Add (ipI fun i j => i + j) := by
  intro pins s σ H x y v u Q I r1 r2 h
  obtain ⟨i, j, e1, e2, q⟩ := h
  subst e1; subst e2
  obtain ⟨t, rfl⟩ := r1
  obtain ⟨t', rfl⟩ := r2
  exact iadd_int ⟨.int _, H, I.tok _, ⟨_, rfl⟩, q⟩
theorem ip_sub : PIp X .Sub (ipI fun i j => i - j) := by
  intro pins s σ H x y v u Q I r1 r2 h
  obtain ⟨i, j, e1, e2, q⟩ := h
  subst e1; subst e2
  obtain ⟨t, rfl⟩ := r1
  obtain ⟨t', rfl⟩ := r2
  exact isub_int ⟨.int _, H, I.tok _, ⟨_, rfl⟩, q⟩
end

/-! ### while -/
section
variable {X : Cx} {pos : Pos}
/-- the invariant W with its measure -/
def tWhile (c : TT) (tb : TS) : TS := fun D σ H => ∃ W : Nat → St → Hp → Prop, (∃ m, W m σ H) ∧ ∀ m σ H, W m σ H →
  c σ H fun b H1 => if b = true then ∃ N : St → Hp → Prop, (∀ σ' H', N σ' H' → ∃ m', m' < m ∧ W m' σ' H') ∧ tb { D with nx := N, ct := N, bk := D.nx } σ H1 else D.nx σ H1
theorem ps_while {c : Expr} {body : List Stmt} {tc : TT} {tb : TS} (hp : PassesOwn (model X.prog X.w) X.A X.env X.xe) (hc : PT X c tc) (hb : PSs X body tb) : PS X (.While c body [] pos) (tWhile tc tb) := by
  intro pins s σ H D I h
  obtain ⟨W, ⟨m0, w0⟩, turn⟩ := h
  refine wpAny_While (codeAny_whileLoop (fun n s' => ∃ σ' H', Inv X pins σ' H' s' ∧ W n σ' H') ?_ m0 ⟨σ, H, I, w0⟩)
  rintro n s1 ⟨σ1, H1, I1, w1⟩
  refine wpAny_passesOwn hp (thn (hc pins s1 σ1 H1 _ I1 (turn n σ1 H1 w1)) fun b s2 ⟨H2, I2, q2⟩ => ?_)
  cases b with
  | true =>
    obtain ⟨N, hN, q2⟩ := q2
    rw [if_pos rfl]
    refine wpAny_passesOwn hp (thn (hb pins s2 σ1 H2 _ I2 q2) fun f s3 q3 => ?_)
    cases f with
    | next =>
      obtain ⟨σ3, H3, I3, n3⟩ := q3
      obtain ⟨m', hm, w3⟩ := hN σ3 H3 n3
      exact ⟨m', hm, σ3, H3, I3, w3⟩
    | cont =>
      obtain ⟨σ3, H3, I3, n3⟩ := q3
      obtain ⟨m', hm, w3⟩ := hN σ3 H3 n3
      exact ⟨m', hm, σ3, H3, I3, w3⟩
    | brk => exact q3
    | ret v => exact q3
  | false =>
    rw [if_neg Bool.false_ne_true]
    exact wpAny_execs_nil ⟨σ1, H2, I2, q2⟩
end

/-! ### what a loop or a comprehension walks -/
/-- at turn i: it yields x (the heap may grow), or it stops -/
structure It where
  go : Nat → Hp → Prop
  yld : Nat → Hp → V → Hp → Prop
  stop : Nat → Hp → Prop
/-- the iterator's own objects may turn: they are not the frame's, not pinned, younger than the entry (or a comprehension's own) -/
def FpOk (X : Cx) (pins : List (Addr × Obj)) (H : Hp) (b : Addr) : Prop :=
  H b = none ∧ b ≠ X.env.locals ∧ b ∉ X.fs ∧ (b ∈ X.ex ∨ X.s₀.heap.objs.size ≤ b) ∧ (∀ x c, X.env.cells.lookup x = some c → c ≠ b) ∧ ∀ p ∈ X.pn ++ pins, p.1 ≠ b
theorem Inv.fpOk {X : Cx} {pins : List (Addr × Obj)} {σ : St} {H H' : Hp} {s : Shared} {b : Addr} (I : Inv X pins σ H s) (hb : s.heap.objs.size ≤ b) (hn : H' b = none) : FpOk X pins H' b := by
  refine ⟨hn, Nat.ne_of_gt (Nat.lt_of_lt_of_le I.lt hb), I.nofs hb, .inr (Nat.le_trans I.sz hb), fun x c e z => ?_, fun p hp z => ?_⟩
  · obtain ⟨v, q⟩ := I.cell x c e
    exact absurd (Nat.lt_of_lt_of_le q.lt (by rw [z]; exact hb)) (Nat.lt_irrefl _)
  · exact absurd (Nat.lt_of_lt_of_le (Heap.lt_size (I.pin p hp).1) (by rw [z]; exact hb)) (Nat.lt_irrefl _)
structure Turn (P : Program) (w : World) (K : PySem.W.Frag) (tg : Expr) (J : It) (fp : List Addr) (it : Addr) (tn : Nat → Heap → Prop) : Prop where
  mem : it ∈ fp
  obj : ∀ i h, tn i h → ∀ b ∈ fp, ∃ o, h.get? b = some o ∧ ∀ v, o.data ≠ .cell v
  keep : ∀ i h h', tn i h → (∀ b ∈ fp, ∀ o, h.get? b = some o → h'.get? b = some o) → tn i h'
  item : ∀ (X : Cx), X.prog = P → X.w = w → X.K = K → X.calm = true → ∀ (i : Nat) (pins : List (Addr × Obj)) (s : Shared) (σ : St) (H : Hp) (E : Value → Shared → Prop), Inv X pins σ H s → (∀ b ∈ fp, FpOk X pins H b) → tn i s.heap → J.go i H →
    wpAny (model P w) X.A (pyNext (.ref it)) (fun r s1 => ∃ u, r = some u ∧
      wpAny (model P w) X.A (letOwnedTupleGo tg (.ref it) u) (fun _ s2 => ∃ x H', Inv X pins σ H' s2 ∧ RelV x u ∧ J.yld i H x H' ∧ tn (i + 1) s2.heap ∧ ∀ b ∈ fp, H' b = none) E s1) E s
  done : ∀ (X : Cx), X.prog = P → X.w = w → X.K = K → X.calm = true → ∀ (i : Nat) (pins : List (Addr × Obj)) (s : Shared) (σ : St) (H : Hp) (E : Value → Shared → Prop), Inv X pins σ H s → (∀ b ∈ fp, FpOk X pins H b) → tn i s.heap → J.stop i H →
    wpAny (model P w) X.A (pyNext (.ref it)) (fun r s1 => r = none ∧ Inv X pins σ H s1) E s
  self : ∀ (A : Around) (i : Nat) (s : Shared) (Q : Value → Shared → Prop) (E : Value → Shared → Prop), tn i s.heap → Q (.ref it) s → wpAny (model P w) A (pyIter (.ref it)) Q E s
abbrev TI := St → Hp → (It → Hp → Prop) → Prop
/-- an iterator has come -/
def PIE (X : Cx) (pins : List (Addr × Obj)) (σ : St) (tg : Expr) (R : It → Hp → Prop) (itv : Value) (s2 : Shared) : Prop :=
  ∃ (it : Addr) (fp : List Addr) (tn : Nat → Heap → Prop) (J : It) (H' : Hp), itv = .ref it ∧ Inv X pins σ H' s2 ∧ Turn X.prog X.w X.K tg J fp it tn ∧ tn 0 s2.heap ∧ (∀ b ∈ fp, FpOk X pins H' b) ∧ R J H'
def PI (X : Cx) (tg iter : Expr) (wi : TI) : Prop :=
  ∀ (pins : List (Addr × Obj)) (s : Shared) (σ : St) (H : Hp) (R : It → Hp → Prop), Inv X pins σ H s → wi σ H R →
    wpAny (model X.prog X.w) X.A (eval iter X.env) (fun v s1 => wpAny (model X.prog X.w) X.A (pyIter v) (PIE X pins σ tg R) X.xe s1) X.xe s

/-- the step ahead of the store is nothing for an iterator that keeps no tuple -/
theorem go_of {M : Model} {A : Around} {E : Value → Shared → Prop} {s : Shared} {tg : Expr} {it : Addr} {u : Value} {o : Obj} {n : String} {vs : Array Value} {Q : Unit → Shared → Prop} (ho : s.heap.get? it = some o) (hc : o.cls = .type n) (hd : o.data = .fields vs)
    (hn : ["enumerate", "zip", "dict_itemiterator", "dict_reverseitemiterator", "odict_iterator", "itertools.zip_longest", "itertools.pairwise"].contains n = false) (hQ : Q () s) : wpAny M A (letOwnedTupleGo tg (.ref it) u) Q E s := by
  unfold letOwnedTupleGo
  cases tg <;> first
    | exact wpAny_pure hQ
    | (cases u <;> first
        | exact wpAny_pure hQ
        | (refine wpAny_bind (wpAny_load ho ?_)
           rw [hc, hd]
           show wpAny M A (if (["enumerate", "zip", "dict_itemiterator", "dict_reverseitemiterator", "odict_iterator", "itertools.zip_longest", "itertools.pairwise"].contains n && vs[0]? == some (rawInt _)) = true then _ else _) Q E s
           rw [if_neg (by intro h; rw [hn, Bool.false_and] at h; cases h)]
           exact wpAny_pure hQ))

/-- the list at a, as it stands at each turn (a loop may append to it) -/
def Itl (K : PySem.W.Frag) (a : Addr) : It :=
  ⟨fun i H => ∃ xs x, SqL K H a xs ∧ xs[i]? = some x, fun i H x H' => H' = H ∧ ∀ xs, SqL K H a xs → xs[i]? = some x, fun i H => ∃ xs, SqL K H a xs ∧ xs.length ≤ i⟩
def Itt (K : PySem.W.Frag) (a : Addr) : It :=
  ⟨fun i H => ∃ xs x, SqT K H a xs ∧ xs[i]? = some x, fun i H x H' => H' = H ∧ ∀ xs, SqT K H a xs → xs[i]? = some x, fun i H => ∃ xs, SqT K H a xs ∧ xs.length ≤ i⟩
/-- lo, lo + 1, .. (n of them) -/
def Itr (lo : Int) (n : Nat) : It := ⟨fun i _ => i < n, fun i H x H' => H' = H ∧ x = .int (lo + i), fun i _ => n ≤ i⟩
theorem turn_list {P : Program} {w : World} {K : PySem.W.Frag} {tg : Expr} (a it : Addr) : Turn P w K tg (Itl K a) [it] it (fun i h => h.IsListIter it a i) where
  mem := by simp
  obj := fun i h st b hb => by
    have e : b = it := by simpa using hb
    subst e
    obtain ⟨o, e, c, d⟩ := st
    exact ⟨o, e, fun v z => by rw [d] at z; cases z⟩
  keep := fun i h h' st k => st.at fun o e => k it (by simp) o e
  item := by
    intro X hP hw hK hc i pins s σ H E I hf st hg
    subst hP hw hK
    obtain ⟨xs, x, hq, hx⟩ := hg
    obtain ⟨its, rv, p, hz⟩ := I.list hq
    obtain ⟨u, hu, ru⟩ := rv.get hx
    obtain ⟨f0, f1, f2, f3, f4, f5⟩ := hf it (by simp)
    refine wpAny_pyNext_list_item st p.isList (x := u) (by simpa using hu) fun h' st' sb => ?_
    have I1 : Inv X pins σ H { s with heap := h' } := I.turned (t' := s.toks) (fun b o hb e => (sb.2 b hb).trans e) f0 f1 f3 f4 f5
    obtain ⟨o, e, c, d⟩ := id st'
    exact ⟨u, rfl, go_of (s := { s with heap := h' }) e c d (by decide) ⟨x, H, I1, ru, ⟨rfl, fun ys hy => by rw [I.list_inj hy hq]; exact hx⟩, st', fun b hb => (hf b hb).1⟩⟩
  done := by
    intro X hP hw hK hc i pins s σ H E I hf st hg
    subst hP hw hK
    obtain ⟨xs, hq, hx⟩ := hg
    obtain ⟨its, rv, p, hz⟩ := I.list hq
    obtain ⟨f0, f1, f2, f3, f4, f5⟩ := hf it (by simp)
    have hl := rv.length
    exact wpAny_pyNext_list_end (I.ok.hd hc) st p.isList (by simp; omega) fun h' eb => ⟨rfl, I.turned (t' := s.toks) (fun b o hb e => eb b o hb e) f0 f1 f3 f4 f5⟩
  self := fun _ _ _ _ _ st h => wpAny_pyIter_listiter st h
theorem turn_tuple {P : Program} {w : World} {K : PySem.W.Frag} {tg : Expr} (a it : Addr) : Turn P w K tg (Itt K a) [it] it (fun i h => h.IsTupleIter it a i) where
  mem := by simp
  obj := fun i h st b hb => by
    have e : b = it := by simpa using hb
    subst e
    obtain ⟨o, e, c, d⟩ := st
    exact ⟨o, e, fun v z => by rw [d] at z; cases z⟩
  keep := fun i h h' st k => st.at fun o e => k it (by simp) o e
  item := by
    intro X hP hw hK hc i pins s σ H E I hf st hg
    subst hP hw hK
    obtain ⟨xs, x, hq, hx⟩ := hg
    obtain ⟨its, rv, p, hz⟩ := I.tuple hq
    obtain ⟨u, hu, ru⟩ := rv.get hx
    obtain ⟨f0, f1, f2, f3, f4, f5⟩ := hf it (by simp)
    refine wpAny_pyNext_tuple_item st (show s.heap.IsTuple a its.toArray from p) (x := u) (by simpa using hu) fun h' st' sb => ?_
    have I1 : Inv X pins σ H { s with heap := h' } := I.turned (t' := s.toks) (fun b o hb e => (sb.2 b hb).trans e) f0 f1 f3 f4 f5
    obtain ⟨o, e, c, d⟩ := id st'
    exact ⟨u, rfl, go_of (s := { s with heap := h' }) e c d (by decide) ⟨x, H, I1, ru, ⟨rfl, fun ys hy => by rw [I.tuple_inj hy hq]; exact hx⟩, st', fun b hb => (hf b hb).1⟩⟩
  done := by
    intro X hP hw hK hc i pins s σ H E I hf st hg
    subst hP hw hK
    obtain ⟨xs, hq, hx⟩ := hg
    obtain ⟨its, rv, p, hz⟩ := I.tuple hq
    obtain ⟨f0, f1, f2, f3, f4, f5⟩ := hf it (by simp)
    have hl := rv.length
    exact wpAny_pyNext_tuple_end (I.ok.hd hc) st (show s.heap.IsTuple a its.toArray from p) (by simp; omega) fun h' eb => ⟨rfl, I.turned (t' := s.toks) (fun b o hb e => eb b o hb e) f0 f1 f3 f4 f5⟩
  self := fun _ _ _ _ _ st h => wpAny_pyIter_tupleiter st h
theorem turn_range {P : Program} {w : World} {K : PySem.W.Frag} {tg : Expr} (it : Addr) (lo : Int) (n : Nat) : Turn P w K tg (Itr lo n) [it] it (fun i h => IsRangeIter h it (lo + (i : Nat) * 1) ((n : Int) - (i : Nat)) 1) where
  mem := by simp
  obj := fun i h st b hb => by
    have e : b = it := by simpa using hb
    subst e
    exact ⟨_, st, fun v z => by
      have z' : Data.fields _ = Data.cell v := z
      cases z'⟩
  keep := fun i h h' st k => k it (by simp) _ st
  item := by
    intro X hP hw hK hc i pins s σ H E I hf st hg
    subst hP hw hK
    obtain ⟨f0, f1, f2, f3, f4, f5⟩ := hf it (by simp)
    have W := Walks.range (prog := X.prog) (w := X.w) (I.ok.hd hc) it lo 1 n
    refine W.item i s _ _ hg st fun v h' tk hv st' kk => ?_
    obtain ⟨t, rfl⟩ := hv
    have I1 : Inv X pins σ H { s with heap := h', toks := tk } := I.turned (fun b o hb e => kk b o (by simpa using hb) e) f0 f1 f3 f4 f5
    refine ⟨_, rfl, go_of (s := { s with heap := h', toks := tk }) (n := "range_iterator") st' rfl rfl (by decide) ⟨.int (lo + i), H, I1, ⟨t, ?_⟩, ⟨rfl, rfl⟩, st', fun b hb => (hf b hb).1⟩⟩
    rw [Int.mul_one]
  done := by
    intro X hP hw hK hc i pins s σ H E I hf st hg
    subst hP hw hK
    obtain ⟨f0, f1, f2, f3, f4, f5⟩ := hf it (by simp)
    exact wpAny_pyNext_range_end (I.ok.hd hc) st (by have : n ≤ i := hg; omega) fun h' eb => ⟨rfl, I.turned (t' := s.toks) (fun b o hb e => eb b o hb e) f0 f1 f3 f4 f5⟩
  self := fun _ _ _ _ _ st h => wpAny_pyIter_rangeiter st h
end L2

namespace L2
open PySem PySem.Spec PyProof.Rows
section
variable {X : Cx} {tg : Expr}
def iList (K : PySem.W.Frag) (tl : TE) : TI := fun σ H R => tl σ H fun x H1 => ∃ a, x = .ref a ∧ (∃ xs, SqL K H1 a xs) ∧ R (Itl K a) H1
def iTup (K : PySem.W.Frag) (tl : TE) : TI := fun σ H R => tl σ H fun x H1 => ∃ a, x = .ref a ∧ (∃ xs, SqT K H1 a xs) ∧ R (Itt K a) H1
theorem pi_list {l : Expr} {tl : TE} (hl : PE X l tl) : PI X tg l (iList X.K tl) := by
  intro pins s σ H R I h
  refine thn (hl pins s σ H _ I h) fun v s1 ⟨x, H1, I1, r1, q1⟩ => ?_
  obtain ⟨a, e, ⟨xs, hq⟩, q⟩ := q1
  subst e
  cases r1
  obtain ⟨its, rv, p, hz⟩ := I1.list hq
  refine wpAny_pyIter_list p.isList ?_
  refine ⟨s1.heap.objs.size, [s1.heap.objs.size], _, _, H1, rfl, I1.kept (t' := s1.toks) fun b o e => Heap.get?_push_of_some _ e, turn_list a _, ⟨_, Heap.get?_push_size _ rfl, rfl, rfl⟩, fun b hb => ?_, q⟩
  have e : b = s1.heap.objs.size := by simpa using hb
  subst e
  exact I1.fpOk (Nat.le_refl _) (I1.hok.fresh (Nat.le_refl _))
theorem pi_tup {l : Expr} {tl : TE} (hl : PE X l tl) : PI X tg l (iTup X.K tl) := by
  intro pins s σ H R I h
  refine thn (hl pins s σ H _ I h) fun v s1 ⟨x, H1, I1, r1, q1⟩ => ?_
  obtain ⟨a, e, ⟨xs, hq⟩, q⟩ := q1
  subst e
  cases r1
  obtain ⟨its, rv, p, hz⟩ := I1.tuple hq
  refine wpAny_pyIter_tuple (show s1.heap.IsTuple a its.toArray from p) ?_
  refine ⟨s1.heap.objs.size, [s1.heap.objs.size], _, _, H1, rfl, I1.kept (t' := s1.toks) fun b o e => Heap.get?_push_of_some _ e, turn_tuple a _, ⟨_, Heap.get?_push_size _ rfl, rfl, rfl⟩, fun b hb => ?_, q⟩
  have e : b = s1.heap.objs.size := by simpa using hb
  subst e
  exact I1.fpOk (Nat.le_refl _) (I1.hok.fresh (Nat.le_refl _))
/-- a range object just made, walked -/
theorem range_it {pins : List (Addr × Obj)} {σ : St} {H : Hp} {s : Shared} {R : It → Hp → Prop} {E : Value → Shared → Prop} {lo hi : Int} {t u v : Tok} {tk : Nat} (I : Inv X pins σ H s) (h1 : -(2 ^ 62) ≤ lo) (h2 : lo < 2 ^ 62) (h3 : -(2 ^ 62) ≤ hi) (h4 : hi < 2 ^ 62)
    (q : R (Itr lo (hi - lo).toNat) H) : wpAny (model X.prog X.w) X.A (pyIter (.ref s.heap.objs.size)) (PIE X pins σ tg R) E { s with heap := s.heap.push { cls := .type "range", data := .fields #[.int lo t, .int hi u, .int 1 v] }, toks := tk } := by
  refine wpAny_pyIter_range (IsRange.new ..) (small_one h1 h2 h3 h4) ?_
  have I1 : Inv X pins σ H { s with heap := s.heap.push { cls := .type "range", data := .fields #[.int lo t, .int hi u, .int 1 v] }, toks := tk } := I.kept fun b o e => Heap.get?_push_of_some _ e
  refine ⟨(s.heap.push { cls := .type "range", data := .fields #[.int lo t, .int hi u, .int 1 v] }).objs.size, [(s.heap.push { cls := .type "range", data := .fields #[.int lo t, .int hi u, .int 1 v] }).objs.size], _, _, H, rfl,
    I1.kept (t' := tk) fun b o e => Heap.get?_push_of_some _ e, turn_range _ lo (hi - lo).toNat, ?_, fun b hb => ?_, q⟩
  · have e1 : lo + ((0 : Nat) : Int) * 1 = lo := by simp
    have e2 : (((hi - lo).toNat : Nat) : Int) - ((0 : Nat) : Int) = Builtin.Range.rangeSize lo hi 1 := by rw [rangeSize_one]; split <;> omega
    show IsRangeIter _ _ (lo + ((0 : Nat) : Int) * 1) ((((hi - lo).toNat : Nat) : Int) - ((0 : Nat) : Int)) 1
    rw [e1, e2]
    exact Heap.get?_push_size _ rfl
  · have e : b = (s.heap.push { cls := .type "range", data := .fields #[.int lo t, .int hi u, .int 1 v] }).objs.size := by simpa using hb
    subst e
    exact I1.fpOk (Nat.le_refl _) (I1.hok.fresh (Nat.le_refl _))
def iRng1 (ta : TA) : TI := fun σ H R => ta σ H fun vs H1 => ∃ j : Int, vs = [.int j] ∧ -(2 ^ 62) ≤ j ∧ j < 2 ^ 62 ∧ R (Itr 0 j.toNat) H1
def iRng2 (ta : TA) : TI := fun σ H R => ta σ H fun vs H1 => ∃ i j : Int, vs = [.int i, .int j] ∧ (-(2 ^ 62) ≤ i ∧ i < 2 ^ 62 ∧ -(2 ^ 62) ≤ j ∧ j < 2 ^ 62) ∧ R (Itr i (j - i).toNat) H1
theorem pi_range1 {a : Expr} {ta : TA} {p pos : Pos} (hg : Gl X "range") (hm : X.mg "range" = none) (ha : PA X [a] ta) (hs : starEach [a] X.env = [(false, eval a X.env)] := by rfl) : PI X tg (.Call (.Name "range" p) [a] [] pos) (iRng1 ta) := by
  intro pins s σ H R I h
  refine Call_ (ld_blt I hg hm boot_range (PyProof.Rows.callWith_type1 (thn (ha pos pins s σ H _ I h) fun us s1 ⟨vs, H1, I1, r1, q1⟩ => ?_) hs rfl))
  obtain ⟨j, e, q1, q2, q⟩ := q1
  subst e
  cases r1 with
  | cons r rr =>
    cases rr
    obtain ⟨t, rfl⟩ := r
    exact call_range_1 (range_it I1 (by omega) (by omega) q1 q2 (by simpa using q))
theorem pi_range2 {a b : Expr} {ta : TA} {p pos : Pos} (hg : Gl X "range") (hm : X.mg "range" = none) (ha : PA X [a, b] ta) (hs : starEach [a, b] X.env = [(false, eval a X.env), (false, eval b X.env)] := by rfl) (hs2 : starEach [b] X.env = [(false, eval b X.env)] := by rfl) :
    PI X tg (.Call (.Name "range" p) [a, b] [] pos) (iRng2 ta) := by
  intro pins s σ H R I h
  refine Call_ (ld_blt I hg hm boot_range (PyProof.Rows.callWith_type1 (thn (ha pos pins s σ H _ I h) fun us s1 ⟨vs, H1, I1, r1, q1⟩ => ?_) (by rw [hs, hs2]) (by rw [hs2]; rfl)))
  obtain ⟨i, j, e, ⟨q1, q2, q3, q4⟩, q⟩ := q1
  subst e
  cases r1 with
  | cons r rr =>
    cases rr with
    | cons r' rr =>
      cases rr
      obtain ⟨t, rfl⟩ := r
      obtain ⟨t', rfl⟩ := r'
      exact call_range_2 (range_it I1 q1 q2 q3 q4 q)

/-! ### for -/
/-- W: the invariant by the turn and a measure; N: what the body is to reach -/
def tFor (wi : TI) (g : TG) (tb : TS) : TS := fun D σ H => wi σ H fun J H1 => ∃ W : Nat → Nat → St → Hp → Prop, (∃ m, W 0 m σ H1) ∧ ∀ i m σ H, W i m σ H →
  (J.stop i H ∧ D.nx σ H) ∨ (J.go i H ∧ ∃ N : St → Hp → Prop, (∀ σ' H', N σ' H' → ∃ m', m' < m ∧ W (i + 1) m' σ' H') ∧ ∀ x H', J.yld i H x H' → g x σ H' fun σ2 H2 => tb { D with nx := N, ct := N, bk := D.nx } σ2 H2)
/-- the records at fp as they stand -/
def pinsAt (fp : List Addr) (h : Heap) : List (Addr × Obj) := fp.filterMap fun b => (h.get? b).map fun o => (b, o)
theorem mem_pinsAt {fp : List Addr} {h : Heap} {b : Addr} {o : Obj} (hb : b ∈ fp) (e : h.get? b = some o) : (b, o) ∈ pinsAt fp h := List.mem_filterMap.mpr ⟨b, hb, by rw [e]; rfl⟩
theorem of_pinsAt {fp : List Addr} {h : Heap} {p : Addr × Obj} (hp : p ∈ pinsAt fp h) : p.1 ∈ fp ∧ h.get? p.1 = some p.2 := by
  obtain ⟨b, hb, e⟩ := List.mem_filterMap.mp hp
  cases q : h.get? b with
  | none => rw [q] at e; cases e
  | some o =>
    rw [q] at e
    have e' : (b, o) = p := Option.some.inj e
    subst e'
    exact ⟨hb, q⟩
theorem Inv.pinned {pins : List (Addr × Obj)} {σ : St} {H : Hp} {s : Shared} {fp : List Addr} (I : Inv X pins σ H s) (hf : ∀ b ∈ fp, FpOk X pins H b) (ho : ∀ b ∈ fp, ∃ o, s.heap.get? b = some o ∧ ∀ v, o.data ≠ .cell v) : Inv X (pins ++ pinsAt fp s.heap) σ H s :=
  I.pins_of fun p hp => (List.mem_append.mp hp).elim (fun z => I.pin p (List.mem_append_right _ z)) fun z => by
    obtain ⟨hb, e⟩ := of_pinsAt z
    obtain ⟨f0, f1, f2, _⟩ := hf p.1 hb
    obtain ⟨o, e', d⟩ := ho p.1 hb
    rw [e] at e'; cases e'
    exact ⟨e, f0, f1, f2, d⟩
theorem Inv.unpinned {pins pl : List (Addr × Obj)} {σ : St} {H : Hp} {s : Shared} (I : Inv X (pins ++ pl) σ H s) : Inv X pins σ H s := I.pins_of fun p hp => I.pin p (List.mem_append_right _ (List.mem_append_left _ hp))
theorem ps_for {iter : Expr} {body : List Stmt} {wi : TI} {g : TG} {tb : TS} {pos : Pos} (hp : PassesOwn (model X.prog X.w) X.A X.env X.xe) (hc : X.calm = true) (hi : PI X tg iter wi) (hg : PG X tg g) (hb : PSs X body tb)
    (hs : ∀ x, foldedSetIterable iter X.env x = pure x := by intro _; rfl) : PS X (.For tg iter body [] pos) (tFor wi g tb) := by
  intro pins s σ H D I h
  refine wpAny_For (thn (hi pins s σ H _ I h) fun v s1 h1 => thn h1 fun itv s2 h2 => ?_) hs
  obtain ⟨it, fp, tn, J, H2, e, I2, T, st2, f2, W, ⟨m0, w0⟩, turn⟩ := h2
  subst e
  -- what stays true of the iterator's objects through the loop
  have stat : ∀ {H' : Hp}, (∀ b ∈ fp, H' b = none) → ∀ b ∈ fp, FpOk X pins H' b := fun hn b hb => ⟨hn b hb, (f2 b hb).2⟩
  refine codeAny_forLoop_any (fun n s' => ∃ i σ' H', Inv X pins σ' H' s' ∧ tn i s'.heap ∧ (∀ b ∈ fp, H' b = none) ∧ W i n σ' H') ?_ m0 ⟨0, σ, H2, I2, st2, fun b hb => (f2 b hb).1, w0⟩
  rintro n s3 ⟨i, σ3, H3, I3, st3, fr3, w3⟩
  rcases turn i n σ3 H3 w3 with ⟨stop, qn⟩ | ⟨go, N, hN, step⟩
  · refine wpAny_passesOwn hp (thn (T.done X rfl rfl rfl hc i pins s3 σ3 H3 X.xe I3 (stat fr3) st3 stop) fun r s4 ⟨hr, I4⟩ => ?_)
    subst hr
    exact wpAny_execs_nil ⟨σ3, H3, I4, qn⟩
  · refine wpAny_passesOwn hp (thn (T.item X rfl rfl rfl hc i pins s3 σ3 H3 X.xe I3 (stat fr3) st3 go) fun r s4 ⟨u, hr, h4⟩ => ?_)
    subst hr
    refine wpAny_passesOwn hp (thn h4 fun _ s5 ⟨x, H5, I5, r5, y5, st5, fr5⟩ => ?_)
    have I5' := I5.pinned (stat fr5) (T.obj _ _ st5)
    refine wpAny_passesOwn hp (thn (hg _ s5 σ3 H5 x u _ I5' r5 (step x H5 y5)) fun _ s6 ⟨σ6, H6, I6, q6⟩ => ?_)
    refine wpAny_passesOwn hp (thn (hb _ s6 σ6 H6 _ I6 q6) fun f s7 q7 => ?_)
    have again : ∀ {σ7 : St} {H7 : Hp}, Inv X (pins ++ pinsAt fp s5.heap) σ7 H7 s7 → N σ7 H7 → ∃ m, m < n ∧ ∃ i σ' H', Inv X pins σ' H' s7 ∧ tn i s7.heap ∧ (∀ b ∈ fp, H' b = none) ∧ W i m σ' H' := fun {σ7 H7} I7 n7 => by
      obtain ⟨m', hm, w7⟩ := hN σ7 H7 n7
      refine ⟨m', hm, i + 1, σ7, H7, I7.unpinned, T.keep _ _ _ st5 fun b hb o e => (I7.pin (b, o) (List.mem_append_right _ (List.mem_append_right _ (mem_pinsAt hb e)))).1, fun b hb => ?_, w7⟩
      obtain ⟨o, e, d⟩ := T.obj _ _ st5 b hb
      exact (I7.pin (b, o) (List.mem_append_right _ (List.mem_append_right _ (mem_pinsAt hb e)))).2.1
    cases f with
    | next => obtain ⟨σ7, H7, I7, n7⟩ := q7; exact again I7 n7
    | cont => obtain ⟨σ7, H7, I7, n7⟩ := q7; exact again I7 n7
    | brk => obtain ⟨σ7, H7, I7, q7⟩ := q7; exact ⟨σ7, H7, I7.unpinned, q7⟩
    | ret v => obtain ⟨x7, σ7, H7, I7, r7, q7⟩ := q7; exact ⟨x7, σ7, H7, I7.unpinned, r7, q7⟩
end

/-! ### the forms one uses -/
/-- over a list that the body leaves as it is -/
theorem for_list {K : PySem.W.Frag} {a : Addr} {xs : List V} {g : TG} {tb : TS} {D : Ends} {σ : St} {H : Hp} (Pv : Nat → St → Hp → Prop) (h0 : Pv 0 σ H) (hl : ∀ i σ H, i ≤ xs.length → Pv i σ H → SqL K H a xs)
    (hs : ∀ i x σ H, xs[i]? = some x → Pv i σ H → g x σ H fun σ2 H2 => tb { D with nx := Pv (i + 1), ct := Pv (i + 1), bk := D.nx } σ2 H2) (hd : ∀ σ H, Pv xs.length σ H → D.nx σ H) :
    ∃ W : Nat → Nat → St → Hp → Prop, (∃ m, W 0 m σ H) ∧ ∀ i m σ H, W i m σ H →
      ((Itl K a).stop i H ∧ D.nx σ H) ∨ ((Itl K a).go i H ∧ ∃ N : St → Hp → Prop, (∀ σ' H', N σ' H' → ∃ m', m' < m ∧ W (i + 1) m' σ' H') ∧ ∀ x H', (Itl K a).yld i H x H' → g x σ H' fun σ2 H2 => tb { D with nx := N, ct := N, bk := D.nx } σ2 H2) := by
  refine ⟨fun i m σ H => m = xs.length - i ∧ i ≤ xs.length ∧ Pv i σ H, ⟨xs.length, by simp, Nat.zero_le _, h0⟩, ?_⟩
  rintro i m σ H ⟨rfl, hi, p⟩
  have q := hl i σ H hi p
  by_cases hlt : i < xs.length
  · refine .inr ⟨⟨xs, xs[i], q, by simp [hlt]⟩, Pv (i + 1), fun σ' H' p' => ⟨xs.length - (i + 1), by omega, rfl, hlt, p'⟩, fun x H' y => ?_⟩
    obtain ⟨e, y⟩ := y
    subst e
    exact hs i x σ _ (y xs q) p
  · have e : i = xs.length := by omega
    subst e
    exact .inl ⟨⟨xs, q, Nat.le_refl _⟩, hd σ H p⟩
theorem for_tup {K : PySem.W.Frag} {a : Addr} {xs : List V} {g : TG} {tb : TS} {D : Ends} {σ : St} {H : Hp} (Pv : Nat → St → Hp → Prop) (h0 : Pv 0 σ H) (hl : ∀ i σ H, i ≤ xs.length → Pv i σ H → SqT K H a xs)
    (hs : ∀ i x σ H, xs[i]? = some x → Pv i σ H → g x σ H fun σ2 H2 => tb { D with nx := Pv (i + 1), ct := Pv (i + 1), bk := D.nx } σ2 H2) (hd : ∀ σ H, Pv xs.length σ H → D.nx σ H) :
    ∃ W : Nat → Nat → St → Hp → Prop, (∃ m, W 0 m σ H) ∧ ∀ i m σ H, W i m σ H →
      ((Itt K a).stop i H ∧ D.nx σ H) ∨ ((Itt K a).go i H ∧ ∃ N : St → Hp → Prop, (∀ σ' H', N σ' H' → ∃ m', m' < m ∧ W (i + 1) m' σ' H') ∧ ∀ x H', (Itt K a).yld i H x H' → g x σ H' fun σ2 H2 => tb { D with nx := N, ct := N, bk := D.nx } σ2 H2) := by
  refine ⟨fun i m σ H => m = xs.length - i ∧ i ≤ xs.length ∧ Pv i σ H, ⟨xs.length, by simp, Nat.zero_le _, h0⟩, ?_⟩
  rintro i m σ H ⟨rfl, hi, p⟩
  have q := hl i σ H hi p
  by_cases hlt : i < xs.length
  · refine .inr ⟨⟨xs, xs[i], q, by simp [hlt]⟩, Pv (i + 1), fun σ' H' p' => ⟨xs.length - (i + 1), by omega, rfl, hlt, p'⟩, fun x H' y => ?_⟩
    obtain ⟨e, y⟩ := y
    subst e
    exact hs i x σ _ (y xs q) p
  · have e : i = xs.length := by omega
    subst e
    exact .inl ⟨⟨xs, q, Nat.le_refl _⟩, hd σ H p⟩
theorem for_range {lo : Int} {n : Nat} {g : TG} {tb : TS} {D : Ends} {σ : St} {H : Hp} (Pv : Nat → St → Hp → Prop) (h0 : Pv 0 σ H)
    (hs : ∀ i σ H, i < n → Pv i σ H → g (.int (lo + i)) σ H fun σ2 H2 => tb { D with nx := Pv (i + 1), ct := Pv (i + 1), bk := D.nx } σ2 H2) (hd : ∀ σ H, Pv n σ H → D.nx σ H) :
    ∃ W : Nat → Nat → St → Hp → Prop, (∃ m, W 0 m σ H) ∧ ∀ i m σ H, W i m σ H →
      ((Itr lo n).stop i H ∧ D.nx σ H) ∨ ((Itr lo n).go i H ∧ ∃ N : St → Hp → Prop, (∀ σ' H', N σ' H' → ∃ m', m' < m ∧ W (i + 1) m' σ' H') ∧ ∀ x H', (Itr lo n).yld i H x H' → g x σ H' fun σ2 H2 => tb { D with nx := N, ct := N, bk := D.nx } σ2 H2) := by
  refine ⟨fun i m σ H => m = n - i ∧ i ≤ n ∧ Pv i σ H, ⟨n, by simp, Nat.zero_le _, h0⟩, ?_⟩
  rintro i m σ H ⟨rfl, hi, p⟩
  by_cases hlt : i < n
  · refine .inr ⟨hlt, Pv (i + 1), fun σ' H' p' => ⟨n - (i + 1), by omega, rfl, hlt, p'⟩, fun x H' y => ?_⟩
    obtain ⟨e, y⟩ := y
    subst e y
    exact hs i σ _ hlt p
  · have e : i = n := by omega
    subst e
    exact .inl ⟨Nat.le_refl _, hd σ H p⟩
/-- while, by a word and a measure of the state -/
theorem while_by {c : TT} {tb : TS} {D : Ends} {σ : St} {H : Hp} (Pv : St → Hp → Prop) (μ : St → Hp → Nat) (h0 : Pv σ H)
    (hs : ∀ σ H, Pv σ H → c σ H fun b H1 => if b = true then tb { D with nx := fun σ' H' => Pv σ' H' ∧ μ σ' H' < μ σ H, ct := fun σ' H' => Pv σ' H' ∧ μ σ' H' < μ σ H, bk := D.nx } σ H1 else D.nx σ H1)
    (mono : ∀ σ H Q Q', (∀ b H1, Q b H1 → Q' b H1) → c σ H Q → c σ H Q') : tWhile c tb D σ H := by
  refine ⟨fun m σ H => m = μ σ H ∧ Pv σ H, ⟨_, rfl, h0⟩, ?_⟩
  rintro m σ H ⟨rfl, p⟩
  refine mono σ H _ _ (fun b H1 q => ?_) (hs σ H p)
  cases b with
  | true => exact ⟨_, fun σ' H' ⟨p', l⟩ => ⟨_, l, rfl, p'⟩, q⟩
  | false => exact q
end L2

namespace L2
open PySem PySem.Spec PyProof.Rows

abbrev R2 := V → V → Hp → VK → Prop
/-- a two-place operation on values: f is binaryOp op, inplaceOp op or compareOp op -/
def OpR (X : Cx) (f : Value → Value → Sem Value) (r : R2) : Prop :=
  ∀ (pins : List (Addr × Obj)) (s : Shared) (σ : St) (H : Hp) (x y : V) (v u : Value) (Q : VK), Inv X pins σ H s → RelV x v → RelV y u → r x y H Q →
    wpAny (model X.prog X.w) X.A (f v u) (EP X pins σ Q) X.xe s
/-- a one-place operation -/
def UnR (X : Cx) (f : Value → Sem Value) (r : V → Hp → VK → Prop) : Prop :=
  ∀ (pins : List (Addr × Obj)) (s : Shared) (σ : St) (H : Hp) (x : V) (v : Value) (Q : VK), Inv X pins σ H s → RelV x v → r x H Q →
    wpAny (model X.prog X.w) X.A (f v) (EP X pins σ Q) X.xe s
/-- a call of a value that is known (a builtin, a type) with values -/
def CallR (X : Cx) (f : Value) (r : List V → Hp → VK → Prop) : Prop :=
  ∀ (pins : List (Addr × Obj)) (s : Shared) (σ : St) (H : Hp) (xs : List V) (us : List Value) (Q : VK), Inv X pins σ H s → Vals xs us → r xs H Q →
    wpAny (model X.prog X.w) X.A (call f us) (EP X pins σ Q) X.xe s
/-- a value's truth -/
def TruR (X : Cx) (r : V → Hp → (Bool → Hp → Prop) → Prop) : Prop :=
  ∀ (pins : List (Addr × Obj)) (s : Shared) (σ : St) (H : Hp) (x : V) (v : Value) (Q : Bool → Hp → Prop), Inv X pins σ H s → RelV x v → r x H Q →
    wpAny (model X.prog X.w) X.A (truthy v) (TP X pins σ Q) X.xe s

def tOp (r : R2) (ta tb : TE) : TE := fun σ H Q => ta σ H fun x H1 => tb σ H1 fun y H2 => r x y H2 Q
def tUn (r : V → Hp → VK → Prop) (ta : TE) : TE := fun σ H Q => ta σ H fun x H1 => r x H1 Q
/-- ints in, under C, and a value out -/
def rI (C : Int → Int → Prop) (g : Int → Int → V) : R2 := fun x y H Q => ∃ i j, x = .int i ∧ y = .int j ∧ C i j ∧ Q (g i j) H
def rI0 (g : Int → Int → V) : R2 := fun x y H Q => ∃ i j, x = .int i ∧ y = .int j ∧ Q (g i j) H
def rU (g : Int → V) : V → Hp → VK → Prop := fun x H Q => ∃ i, x = .int i ∧ Q (g i) H

section
variable {X : Cx} {a b c : Expr} {ta tb tc : TE} {pos : Pos}

theorem binT (ha : PE X a ta) (hb : PE X b tb) {pins : List (Addr × Obj)} {s : Shared} {σ : St} {H : Hp} {R : V → V → Hp → Prop} (I : Inv X pins σ H s)
    (h : ta σ H fun x H1 => tb σ H1 fun y H2 => R x y H2) {Q : Value → Shared → Prop} {f : Value → Value → Sem Value}
    (hf : ∀ v u s2 x y H2, Inv X pins σ H2 s2 → RelV x v → RelV y u → R x y H2 → wpAny (model X.prog X.w) X.A (f v u) Q X.xe s2) :
    wpAny (model X.prog X.w) X.A (eval a X.env) (fun v s₁ => wpAny (model X.prog X.w) X.A (eval b X.env) (fun u s₂ => wpAny (model X.prog X.w) X.A (f v u) Q X.xe s₂) X.xe s₁) X.xe s := by
  refine thn (ha pins s σ H _ I h) fun v s1 ⟨x, H1, I1, r1, q1⟩ => ?_
  refine thn (hb pins s1 σ H1 _ I1 q1) fun u s2 ⟨y, H2, I2, r2, q2⟩ => ?_
  exact hf v u s2 x y H2 I2 r1 r2 q2

theorem pe_op {op : Operator} {r : R2} (ho : OpR X (binaryOp op) r) (ha : PE X a ta) (hb : PE X b tb) : PE X (.BinOp a op b pos) (tOp r ta tb) := by
  intro pins s σ H Q I h
  exact wpAny_BinOp (binT ha hb I h fun v u s2 x y H2 I2 rx ry q => ho pins s2 σ H2 x y v u Q I2 rx ry q)
theorem pe_un {op : UnaryOp} {r : V → Hp → VK → Prop} (ho : UnR X (unaryOp op) r) (ha : PE X a ta) : PE X (.UnaryOp op a pos) (tUn r ta) := by
  intro pins s σ H Q I h
  exact UnaryOp_ (thn (ha pins s σ H _ I h) fun v s1 ⟨x, H1, I1, r1, q1⟩ => ho pins s1 σ H1 x v Q I1 r1 q1)
/-- a op= e at a name: the name's slot i -/
theorem augR {op : Operator} {r : R2} (ho : OpR X (inplaceOp op) r) {pins : List (Addr × Obj)} {s : Shared} {σ : St} {H : Hp} {x y : V} {v u : Value} {Q : VK} (I : Inv X pins σ H s)
    (rx : RelV x v) (ry : RelV y u) (q : r x y H Q) : wpAny (model X.prog X.w) X.A (inplaceOp op v u) (EP X pins σ Q) X.xe s := ho pins s σ H x y v u Q I rx ry q

/-! ### ints -/
theorem opI {f : Value → Value → Sem Value} {C : Int → Int → Prop} {g : Int → Int → Int}
    (rule : ∀ (i j : Int) (t u : Tok) (s : Shared) (Q : Value → Shared → Prop) (E : Value → Shared → Prop), C i j → Q (.int (g i j) s.toks) { s with toks := s.toks + 1 } → wpAny (model X.prog X.w) X.A (f (.int i t) (.int j u)) Q E s) :
    OpR X f (rI C fun i j => .int (g i j)) := by
  intro pins s σ H x y v u Q I rx ry h
  obtain ⟨i, j, rfl, rfl, hc, q⟩ := h
  obtain ⟨t, rfl⟩ := rx
  obtain ⟨t', rfl⟩ := ry
  exact rule i j t t' s _ _ hc ⟨.int (g i j), H, I.tok _, ⟨_, rfl⟩, q⟩
theorem opI0 {f : Value → Value → Sem Value} {g : Int → Int → Int}
    (rule : ∀ (i j : Int) (t u : Tok) (s : Shared) (Q : Value → Shared → Prop) (E : Value → Shared → Prop), Q (.int (g i j) s.toks) { s with toks := s.toks + 1 } → wpAny (model X.prog X.w) X.A (f (.int i t) (.int j u)) Q E s) :
    OpR X f (rI0 fun i j => .int (g i j)) := by
  intro pins s σ H x y v u Q I rx ry h
  obtain ⟨i, j, rfl, rfl, q⟩ := h
  obtain ⟨t, rfl⟩ := rx
  obtain ⟨t', rfl⟩ := ry
  exact rule i j t t' s _ _ ⟨.int (g i j), H, I.tok _, ⟨_, rfl⟩, q⟩
theorem opB0 {f : Value → Value → Sem Value} {g : Int → Int → Bool}
    (rule : ∀ (i j : Int) (t u : Tok) (s : Shared) (Q : Value → Shared → Prop) (E : Value → Shared → Prop), Q (.bool (g i j)) s → wpAny (model X.prog X.w) X.A (f (.int i t) (.int j u)) Q E s) :
    OpR X f (rI0 fun i j => .bl (g i j)) := by
  intro pins s σ H x y v u Q I rx ry h
  obtain ⟨i, j, rfl, rfl, q⟩ := h
  obtain ⟨t, rfl⟩ := rx
  obtain ⟨t', rfl⟩ := ry
  exact rule i j t t' s _ _ ⟨.bl (g i j), H, I, rfl, q⟩

def CDiv (i j : Int) : Prop := 0 < j ∧ j < 1073741824
def CDivN (i j : Int) : Prop := j ≠ 0 ∧ j.natAbs < 1073741824
def CPow (i j : Int) : Prop := 0 ≤ j ∧ j ≤ 1000000 ∧ i.natAbs < 2 ^ 64
def CMul (i j : Int) : Prop := (-(2 ^ 64) < i ∧ i < 2 ^ 64) ∨ (-(2 ^ 64) < j ∧ j < 2 ^ 64)
theorem CMul.ok {i j : Int} (h : CMul i j) : IntMulOk i j := by
  rcases h with ⟨h1, h2⟩ | ⟨h1, h2⟩
  · exact .of_left (intBits_le_64 h1 h2)
  · exact .of_right (intBits_le_64 h1 h2)
theorem two_pow_nn (k : Nat) : (0 : Int) ≤ 2 ^ k := by
  rw [two_pow_cast]
  exact Int.natCast_nonneg _

theorem op_add : OpR X (binaryOp .Add) (rI0 fun i j => .int (i + j)) := opI0 fun _ _ _ _ _ _ _ q => add_int q
theorem op_sub : OpR X (binaryOp .Sub) (rI0 fun i j => .int (i - j)) := opI0 fun _ _ _ _ _ _ _ q => sub_int q
theorem op_mul : OpR X (binaryOp .Mult) (rI CMul fun i j => .int (i * j)) := opI fun _ _ _ _ _ _ _ hc q => mul_int q hc.ok
/-- // by a positive divisor -/
theorem op_fdiv : OpR X (binaryOp .FloorDiv) (rI CDiv fun i j => .int (i / j)) := opI fun i j _ _ _ _ _ hc q => by
  have h1 : (0 : Int) < j := hc.1
  have h2 : j < 1073741824 := hc.2
  exact floordiv_int (by omega) (by rw [Int.fdiv_eq_ediv_of_nonneg i (by omega)]; exact q) (.inl (PyProof.noPylong_small (by omega)))
theorem op_fdivN : OpR X (binaryOp .FloorDiv) (rI CDivN fun i j => .int (i.fdiv j)) := opI fun _ _ _ _ _ _ _ hc q => floordiv_int hc.1 q (.inl (PyProof.noPylong_small hc.2))
/-- % by a positive divisor of any size -/
theorem op_mod : OpR X (binaryOp .Mod) (rI (fun _ j => 0 < j) fun i j => .int (i % j)) := opI fun i j _ _ _ _ _ hc q => by
  have h1 : (0 : Int) < j := hc
  exact mod_int' (by omega) (by rw [Int.fmod_eq_emod_of_nonneg i (by omega)]; exact q)
theorem op_modN : OpR X (binaryOp .Mod) (rI (fun _ j => j ≠ 0) fun i j => .int (i.fmod j)) := opI fun _ _ _ _ _ _ _ hc q => mod_int' hc q
theorem op_pow : OpR X (binaryOp .Pow) (rI CPow fun i j => .int (i ^ j.toNat)) := opI fun _ _ _ _ _ _ _ hc q => pow_int_small hc.1 hc.2.1 hc.2.2 q
theorem op_shl : OpR X (binaryOp .LShift) (rI CPow fun i j => .int (i * 2 ^ j.toNat)) := opI fun _ _ _ _ _ _ _ hc q => lshift_int_small hc.1 hc.2.1 hc.2.2 q
theorem op_shr : OpR X (binaryOp .RShift) (rI (fun _ j => 0 ≤ j) fun i j => .int (i / 2 ^ j.toNat)) := opI fun i j _ _ _ _ _ hc q =>
  rshift_int hc (by rw [Int.fdiv_eq_ediv_of_nonneg i (two_pow_nn _)]; exact q)
theorem op_and : OpR X (binaryOp .BitAnd) (rI0 fun i j => .int (Builtin.bitAnd i j)) := opI0 fun _ _ _ _ _ _ _ q => and_int q
theorem op_or : OpR X (binaryOp .BitOr) (rI0 fun i j => .int (Builtin.bitOr i j)) := opI0 fun _ _ _ _ _ _ _ q => or_int q
theorem op_xor : OpR X (binaryOp .BitXor) (rI0 fun i j => .int (Builtin.bitXor i j)) := opI0 fun _ _ _ _ _ _ _ q => xor_int q

theorem iop_add : OpR X (inplaceOp .Add) (rI0 fun i j => .int (i + j)) := opI0 fun _ _ _ _ _ _ _ q => iadd_int q
theorem iop_sub : OpR X (inplaceOp .Sub) (rI0 fun i j => .int (i - j)) := opI0 fun _ _ _ _ _ _ _ q => isub_int q
theorem iop_mul : OpR X (inplaceOp .Mult) (rI CMul fun i j => .int (i * j)) := opI fun _ _ _ _ _ _ _ hc q => imul_int q hc.ok
theorem iop_fdiv : OpR X (inplaceOp .FloorDiv) (rI CDiv fun i j => .int (i / j)) := opI fun i j _ _ _ _ _ hc q => by
  have h1 : (0 : Int) < j := hc.1
  have h2 : j < 1073741824 := hc.2
  exact ifloordiv_int (by omega) (by rw [Int.fdiv_eq_ediv_of_nonneg i (by omega)]; exact q) (.inl (PyProof.noPylong_small (by omega)))
theorem iop_mod : OpR X (inplaceOp .Mod) (rI (fun _ j => 0 < j) fun i j => .int (i % j)) := opI fun i j _ _ _ _ _ hc q => by
  have h1 : (0 : Int) < j := hc
  exact imod_int (by omega) (by rw [Int.fmod_eq_emod_of_nonneg i (by omega)]; exact q)
theorem iop_shl : OpR X (inplaceOp .LShift) (rI CPow fun i j => .int (i * 2 ^ j.toNat)) := opI fun _ _ _ _ _ _ _ hc q => ilshift_int_small hc.1 hc.2.1 hc.2.2 q
theorem iop_shr : OpR X (inplaceOp .RShift) (rI (fun _ j => 0 ≤ j) fun i j => .int (i / 2 ^ j.toNat)) := opI fun i j _ _ _ _ _ hc q =>
  irshift_int hc (by rw [Int.fdiv_eq_ediv_of_nonneg i (two_pow_nn _)]; exact q)
theorem iop_and : OpR X (inplaceOp .BitAnd) (rI0 fun i j => .int (Builtin.bitAnd i j)) := opI0 fun _ _ _ _ _ _ _ q => iand_int q
theorem iop_or : OpR X (inplaceOp .BitOr) (rI0 fun i j => .int (Builtin.bitOr i j)) := opI0 fun _ _ _ _ _ _ _ q => ior_int q
theorem iop_xor : OpR X (inplaceOp .BitXor) (rI0 fun i j => .int (Builtin.bitXor i j)) := opI0 fun _ _ _ _ _ _ _ q => ixor_int q

theorem unI {f : Value → Sem Value} {g : Int → Int}
    (rule : ∀ (i : Int) (t : Tok) (s : Shared) (Q : Value → Shared → Prop) (E : Value → Shared → Prop), Q (.int (g i) s.toks) { s with toks := s.toks + 1 } → wpAny (model X.prog X.w) X.A (f (.int i t)) Q E s) :
    UnR X f (rU fun i => .int (g i)) := by
  intro pins s σ H x v Q I rx h
  obtain ⟨i, rfl, q⟩ := h
  obtain ⟨t, rfl⟩ := rx
  exact rule i t s _ _ ⟨.int (g i), H, I.tok _, ⟨_, rfl⟩, q⟩
theorem un_neg : UnR X (unaryOp .USub) (rU fun i => .int (-i)) := unI fun _ _ _ _ _ q => neg_int q
theorem un_inv : UnR X (unaryOp .Invert) (rU fun i => .int (Builtin.bitNot i)) := unI fun _ _ _ _ _ q => invert_int q

/-! ### bools among ints: n += (a < b) -/
theorem op_add_ib : OpR X (binaryOp .Add) (fun x y H Q => ∃ i k, x = .int i ∧ y = .bl k ∧ Q (.int (i + b2i k)) H) := by
  intro pins s σ H x y v u Q I rx ry h
  obtain ⟨i, k, rfl, rfl, q⟩ := h
  obtain ⟨t, rfl⟩ := rx
  cases ry
  exact add_int_bool ⟨.int (i + b2i k), H, I.tok _, ⟨_, rfl⟩, q⟩
end

/-! ### comparisons -/
/-- the scalars that == tells apart as data does -/
def scal : V → V → Bool
  | .non, .non => true | .non, .int _ => true | .int _, .non => true | .non, .bl _ => true | .bl _, .non => true | .non, .str _ => true | .str _, .non => true
  | .int _, .int _ => true | .bl _, .bl _ => true | .str _, .str _ => true | .byt _, .byt _ => true
  | .int _, .str _ => true | .str _, .int _ => true | .bl _, .str _ => true | .str _, .bl _ => true
  | _, _ => false
def rEq : R2 := fun x y H Q => scal x y = true ∧ Q (.bl (decide (x = y))) H
def rNe : R2 := fun x y H Q => scal x y = true ∧ Q (.bl (!decide (x = y))) H

theorem dec_int {i j : Int} : decide (V.int i = V.int j) = (i == j) := by
  rw [Bool.eq_iff_iff]
  simp
theorem dec_bl {i j : Bool} : decide (V.bl i = V.bl j) = (i == j) := by
  rw [Bool.eq_iff_iff]
  simp
theorem dec_str {i j : Str} : decide (V.str i = V.str j) = (i == j) := by
  rw [Bool.eq_iff_iff]
  simp
theorem dec_byt {i j : Array UInt8} : decide (V.byt i = V.byt j) = (i.toList == j.toList) := by
  rw [Bool.eq_iff_iff]
  cases i
  cases j
  simp

section
variable {X : Cx} {a b c : Expr} {ta tb tc : TE} {pos : Pos}
theorem fin_bl {pins : List (Addr × Obj)} {σ : St} {H : Hp} {s : Shared} {Q : VK} {k k' : Bool} (I : Inv X pins σ H s) (q : Q (.bl k) H) (e : k = k') : EP X pins σ Q (.bool k') s := by
  subst e
  exact ⟨.bl k, H, I, rfl, q⟩
theorem op_eq : OpR X (compareOp .Eq) rEq := by
  intro pins s σ H x y v u Q I rx ry h
  obtain ⟨hs, q⟩ := h
  cases x with
  | non =>
    cases rx
    cases y with
    | non => cases ry; exact PySem.EqNone.eq_none_none (fin_bl I q (by simp))
    | bl j => cases ry; exact PySem.EqNone.eq_none_bool (fin_bl I q (by simp))
    | int j => obtain ⟨t', rfl⟩ := ry; exact PySem.EqNone.eq_none_int (fin_bl I q (by simp))
    | str j => obtain ⟨t', rfl⟩ := ry; exact PySem.EqNone.eq_none_str (fin_bl I q (by simp))
    | _ => exact absurd (show false = true from hs) Bool.false_ne_true
  | bl i =>
    cases rx
    cases y with
    | non => cases ry; exact PySem.EqNone.eq_bool_none (fin_bl I q (by simp))
    | bl j => cases ry; exact eq_bool (fin_bl I q dec_bl)
    | str j => obtain ⟨t', rfl⟩ := ry; exact PySem.EqMixed.eq_bool_str (fin_bl I q (by simp))
    | _ => exact absurd (show false = true from hs) Bool.false_ne_true
  | int i =>
    obtain ⟨t, rfl⟩ := rx
    cases y with
    | non => cases ry; exact PySem.EqNone.eq_int_none (fin_bl I q (by simp))
    | int j => obtain ⟨t', rfl⟩ := ry; exact eq_int (fin_bl I q dec_int)
    | str j => obtain ⟨t', rfl⟩ := ry; exact PySem.EqMixed.eq_int_str (fin_bl I q (by simp))
    | _ => exact absurd (show false = true from hs) Bool.false_ne_true
  | str i =>
    obtain ⟨t, rfl⟩ := rx
    cases y with
    | non => cases ry; exact PySem.EqNone.eq_str_none (fin_bl I q (by simp))
    | bl j => cases ry; exact PySem.EqMixed.eq_str_bool (fin_bl I q (by simp))
    | int j => obtain ⟨t', rfl⟩ := ry; exact PySem.EqMixed.eq_str_int (fin_bl I q (by simp))
    | str j => obtain ⟨t', rfl⟩ := ry; exact eq_str (fin_bl I q dec_str)
    | _ => exact absurd (show false = true from hs) Bool.false_ne_true
  | byt i =>
    obtain ⟨t, rfl⟩ := rx
    cases y with
    | byt j => obtain ⟨t', rfl⟩ := ry; exact PySem.W.eq_bytes (fin_bl I q dec_byt)
    | _ => exact absurd (show false = true from hs) Bool.false_ne_true
  | _ => cases y <;> exact absurd (show false = true from hs) Bool.false_ne_true
theorem op_ne : OpR X (compareOp .NotEq) rNe := by
  intro pins s σ H x y v u Q I rx ry h
  obtain ⟨hs, q⟩ := h
  cases x with
  | non =>
    cases rx
    cases y with
    | non => cases ry; exact PySem.EqNone.ne_none_none (fin_bl I q (by simp))
    | bl j => cases ry; exact PySem.EqNone.ne_none_bool (fin_bl I q (by simp))
    | int j => obtain ⟨t', rfl⟩ := ry; exact PySem.EqNone.ne_none_int (fin_bl I q (by simp))
    | str j => obtain ⟨t', rfl⟩ := ry; exact PySem.EqNone.ne_none_str (fin_bl I q (by simp))
    | _ => exact absurd (show false = true from hs) Bool.false_ne_true
  | bl i =>
    cases rx
    cases y with
    | non => cases ry; exact PySem.EqNone.ne_bool_none (fin_bl I q (by simp))
    | bl j => cases ry; exact ne_bool (fin_bl I q (congrArg not dec_bl))
    | str j => obtain ⟨t', rfl⟩ := ry; exact PySem.EqMixed.ne_bool_str (fin_bl I q (by simp))
    | _ => exact absurd (show false = true from hs) Bool.false_ne_true
  | int i =>
    obtain ⟨t, rfl⟩ := rx
    cases y with
    | non => cases ry; exact PySem.EqNone.ne_int_none (fin_bl I q (by simp))
    | int j => obtain ⟨t', rfl⟩ := ry; exact ne_int (fin_bl I q (congrArg not dec_int))
    | str j => obtain ⟨t', rfl⟩ := ry; exact PySem.EqMixed.ne_int_str (fin_bl I q (by simp))
    | _ => exact absurd (show false = true from hs) Bool.false_ne_true
  | str i =>
    obtain ⟨t, rfl⟩ := rx
    cases y with
    | non => cases ry; exact PySem.EqNone.ne_str_none (fin_bl I q (by simp))
    | bl j => cases ry; exact PySem.EqMixed.ne_str_bool (fin_bl I q (by simp))
    | int j => obtain ⟨t', rfl⟩ := ry; exact PySem.EqMixed.ne_str_int (fin_bl I q (by simp))
    | str j => obtain ⟨t', rfl⟩ := ry; exact ne_str (fin_bl I q (congrArg not dec_str))
    | _ => exact absurd (show false = true from hs) Bool.false_ne_true
  | byt i =>
    obtain ⟨t, rfl⟩ := rx
    cases y with
    | byt j => obtain ⟨t', rfl⟩ := ry; exact PySem.W.ne_bytes (fin_bl I q (congrArg not dec_byt))
    | _ => exact absurd (show false = true from hs) Bool.false_ne_true
  | _ => cases y <;> exact absurd (show false = true from hs) Bool.false_ne_true

theorem op_lt : OpR X (compareOp .Lt) (rI0 fun i j => .bl (decide (i < j))) := opB0 fun _ _ _ _ _ _ _ q => lt_int q
theorem op_le : OpR X (compareOp .LtE) (rI0 fun i j => .bl (decide (i ≤ j))) := opB0 fun _ _ _ _ _ _ _ q => le_int q
theorem op_gt : OpR X (compareOp .Gt) (rI0 fun i j => .bl (decide (j < i))) := opB0 fun _ _ _ _ _ _ _ q => gt_int q
theorem op_ge : OpR X (compareOp .GtE) (rI0 fun i j => .bl (decide (j ≤ i))) := opB0 fun _ _ _ _ _ _ _ q => ge_int q
theorem op_lt_str : OpR X (compareOp .Lt) (fun x y H Q => ∃ i j, x = .str i ∧ y = .str j ∧ Q (.bl (decide (i.cps.toList < j.cps.toList))) H) := by
  intro pins s σ H x y v u Q I rx ry h
  obtain ⟨i, j, rfl, rfl, q⟩ := h
  obtain ⟨t, rfl⟩ := rx
  obtain ⟨t', rfl⟩ := ry
  exact lt_str (fin_bl I q rfl)
/-- the one string within the other -/
theorem op_in_str : OpR X (compareOp .In) (fun x y H Q => ∃ i j, x = .str i ∧ y = .str j ∧ Q (.bl (!(Builtin.Str.occurrences j i 0 j.length 1).isEmpty)) H) := by
  intro pins s σ H x y v u Q I rx ry h
  obtain ⟨i, j, rfl, rfl, q⟩ := h
  obtain ⟨t, rfl⟩ := rx
  obtain ⟨t', rfl⟩ := ry
  exact in_str (fin_bl I q rfl)

/-- is None, is not None: the right side a value none -/
theorem op_isN : OpR X (compareOp .Is) (fun x y H Q => y = .non ∧ Q (.bl (decide (x = .non))) H) := by
  intro pins s σ H x y v u Q I rx ry h
  obtain ⟨rfl, q⟩ := h
  cases ry
  refine is_none_gen (fin_bl I q ?_)
  cases x <;> first
    | (cases rx; rfl)
    | (obtain ⟨t, rfl⟩ := rx; rfl)
theorem op_notN : OpR X (compareOp .IsNot) (fun x y H Q => y = .non ∧ Q (.bl (!decide (x = .non))) H) := by
  intro pins s σ H x y v u Q I rx ry h
  obtain ⟨rfl, q⟩ := h
  cases ry
  refine isnot_none_gen (fin_bl I q ?_)
  cases x <;> first
    | (cases rx; rfl)
    | (obtain ⟨t, rfl⟩ := rx; rfl)

theorem op_notin_str : OpR X (compareOp .NotIn) (fun x y H Q => ∃ i j, x = .str i ∧ y = .str j ∧ Q (.bl (!(!(Builtin.Str.occurrences j i 0 j.length 1).isEmpty))) H) := by
  intro pins s σ H x y v u Q I rx ry h
  obtain ⟨i, j, rfl, rfl, q⟩ := h
  obtain ⟨t, rfl⟩ := rx
  obtain ⟨t', rfl⟩ := ry
  exact notIn_str (fin_bl I q rfl)
/-- is, is not of two objects that are tracked lists or instances -/
def isObj : HO → Bool
  | .lst _ => true
  | .ins _ _ _ => true
  | _ => false
theorem obj_there {pins : List (Addr × Obj)} {s : Shared} {σ : St} {H : Hp} {a : Addr} {o : HO} (I : Inv X pins σ H s) (h : H a = some o) (p : isObj o = true) : ∃ ob, s.heap.get? a = some ob ∧ ob.cls ≠ .type "tuple" := by
  cases o with
  | lst xs =>
    obtain ⟨_, its, n, _, e⟩ : xs.length ≤ sizeLine ∧ ∃ (its : List Value) (n : Nat), Vals xs its ∧ s.heap.get? a = some { cls := .type "list", data := .seq its.toArray n } := I.hok a _ h
    exact ⟨_, e, (by show Value.type "list" ≠ .type "tuple"; decide +kernel)⟩
  | ins C dx fs =>
    have x := I.hok a _ h
    obtain ⟨_, _, _, e, _⟩ := x
    exact ⟨_, e, (by show Value.ref C ≠ .type "tuple"; exact fun z => by cases z)⟩
  | _ => exact absurd (show false = true from p) Bool.false_ne_true
theorem op_is_ref : OpR X (compareOp .Is) (fun x y H Q => ∃ a b oa ob, x = .ref a ∧ y = .ref b ∧ H a = some oa ∧ isObj oa = true ∧ H b = some ob ∧ isObj ob = true ∧ Q (.bl (decide (a = b))) H) := by
  intro pins s σ H x y v u Q I rx ry h
  obtain ⟨a, b, oa, ob, rfl, rfl, ha, pa, hb, pb, q⟩ := h
  cases rx
  cases ry
  obtain ⟨o1, e1, n1⟩ := obj_there I ha pa
  obtain ⟨o2, e2, _⟩ := obj_there I hb pb
  by_cases z : a = b
  · subst z
    exact wpAny_is_ref_self (fin_bl I q (by simp))
  · exact wpAny_is_ref_other z e1 e2 n1 (fin_bl I q (by simp [z]))
theorem op_isnot_ref : OpR X (compareOp .IsNot) (fun x y H Q => ∃ a b oa ob, x = .ref a ∧ y = .ref b ∧ H a = some oa ∧ isObj oa = true ∧ H b = some ob ∧ isObj ob = true ∧ Q (.bl (!decide (a = b))) H) := by
  intro pins s σ H x y v u Q I rx ry h
  obtain ⟨a, b, oa, ob, rfl, rfl, ha, pa, hb, pb, q⟩ := h
  cases rx
  cases ry
  obtain ⟨o1, e1, n1⟩ := obj_there I ha pa
  obtain ⟨o2, e2, _⟩ := obj_there I hb pb
  by_cases z : a = b
  · subst z
    exact wpAny_isNot_ref_self (fin_bl I q (by simp))
  · exact wpAny_isNot_ref_other z e1 e2 n1 (fin_bl I q (by simp [z]))

/-- two rules for one operation: by cases -/
theorem OpR.or {f : Value → Value → Sem Value} {r r' : R2} (h : OpR X f r) (h' : OpR X f r') : OpR X f (fun x y H Q => r x y H Q ∨ r' x y H Q) := by
  intro pins s σ H x y v u Q I rx ry q
  rcases q with q | q
  · exact h pins s σ H x y v u Q I rx ry q
  · exact h' pins s σ H x y v u Q I rx ry q

theorem nomark (b : Expr) {op : CmpOp} (h : op ≠ .In := by decide) (h2 : op ≠ .NotIn := by decide) : behindInMarks op b = false := by
  have e1 : (op == CmpOp.In) = false := by cases op <;> first | rfl | exact absurd rfl h
  have e2 : (op == CmpOp.NotIn) = false := by cases op <;> first | rfl | exact absurd rfl h2
  cases b <;> simp [behindInMarks, e1, e2]
/-- a comparison as a value; hm: nomark b, or (for in, not in) by with_unfolding_all rfl -/
theorem pe_cmpR {op : CmpOp} {r : R2} (ho : OpR X (compareOp op) r) (ha : PE X a ta) (hb : PE X b tb) (hm : behindInMarks op b = false) : PE X (.Compare a [op] [b] pos) (tOp r ta tb) := by
  intro pins s σ H Q I h
  exact wpAny_Compare1 (binT ha hb I h fun v u s2 x y H2 I2 rx ry q => ho pins s2 σ H2 x y v u Q I2 rx ry q) hm
/-- a reading of a value as a test -/
def tTest (t : TE) : TT := fun σ H Q => t σ H fun x H' => ∃ k, x = .bl k ∧ Q k H'
theorem pt_cmpR {op : CmpOp} {r : R2} (ho : OpR X (compareOp op) r) (ha : PE X a ta) (hb : PE X b tb) (hm : behindInMarks op b = false) : PT X (.Compare a [op] [b] pos) (tTest (tOp r ta tb)) := by
  intro pins s σ H Q I h
  refine wpAny_isTrue_Compare1 (thn (ha pins s σ H _ I h) fun v s1 ⟨x, H1, I1, r1, q1⟩ => thn (hb pins s1 σ H1 _ I1 q1) fun u s2 ⟨y, H2, I2, r2, q2⟩ =>
    thn (ho pins s2 σ H2 x y v u _ I2 r1 r2 q2) fun c s3 ⟨z, H3, I3, r3, k, e, q3⟩ => ?_) hm
  subst e
  cases r3
  exact wpAny_truthy_bool ⟨H3, I3, q3⟩
/-- a op1 b op2 c -/
def tChain (r r' : R2) (ta tb tc : TE) : TE := fun σ H Q => ta σ H fun x H1 => tb σ H1 fun y H2 => r x y H2 fun z H3 => ∃ k, z = .bl k ∧
  (if k = true then tc σ H3 fun w' H4 => r' y w' H4 Q else Q (.bl false) H3)
theorem pe_chain {op op' : CmpOp} {r r' : R2} (ho : OpR X (compareOp op) r) (ho' : OpR X (compareOp op') r') (ha : PE X a ta) (hb : PE X b tb) (hc : PE X c tc)
    (hm : lastMarks [op, op'] [b, c] = false := by with_unfolding_all rfl) : PE X (.Compare a [op, op'] [b, c] pos) (tChain r r' ta tb tc) := by
  intro pins s σ H Q I h
  refine Compare_chain (thn (ha pins s σ H _ I h) fun v s1 ⟨x, H1, I1, r1, q1⟩ => chain_link (thn (hb pins s1 σ H1 _ I1 q1) fun u s2 ⟨y, H2, I2, r2, q2⟩ =>
    thn (ho pins s2 σ H2 x y v u _ I2 r1 r2 q2) fun d s3 ⟨z, H3, I3, r3, k, e, q3⟩ => ?_)) hm
  subst e
  cases r3
  refine wpAny_truthy_bool ?_
  cases k with
  | false => exact ite_ff ⟨.bl false, H3, I3, rfl, q3⟩
  | true => exact ite_tt (chain_last (thn (hc pins s3 σ H3 _ I3 q3) fun w' s4 ⟨z', H4, I4, r4, q4⟩ => ho' pins s4 σ H4 y z' u w' Q I4 r2 r4 q4))
theorem pt_chain {op op' : CmpOp} {r r' : R2} (ho : OpR X (compareOp op) r) (ho' : OpR X (compareOp op') r') (ha : PE X a ta) (hb : PE X b tb) (hc : PE X c tc)
    (hm : lastMarks [op, op'] [b, c] = false := by with_unfolding_all rfl) : PT X (.Compare a [op, op'] [b, c] pos) (tTest (tChain r r' ta tb tc)) := by
  intro pins s σ H Q I h
  refine isTrue_chain (thn (ha pins s σ H _ I h) fun v s1 ⟨x, H1, I1, r1, q1⟩ => test_link (thn (hb pins s1 σ H1 _ I1 q1) fun u s2 ⟨y, H2, I2, r2, q2⟩ =>
    thn (ho pins s2 σ H2 x y v u _ I2 r1 r2 q2) fun d s3 ⟨z, H3, I3, r3, k, e, q3⟩ => ?_)) hm
  subst e
  cases r3
  refine wpAny_truthy_bool ?_
  cases k with
  | false =>
    obtain ⟨k', e', q'⟩ := q3
    cases e'
    exact ite_ff ⟨H3, I3, q'⟩
  | true =>
    refine ite_tt (test_last (thn (hc pins s3 σ H3 _ I3 q3) fun w' s4 ⟨z', H4, I4, r4, q4⟩ => thn (ho' pins s4 σ H4 y z' u w' _ I4 r2 r4 q4) fun d' s5 ⟨z2, H5, I5, r5, k2, e2, q5⟩ => ?_))
    subst e2
    cases r5
    exact wpAny_truthy_bool ⟨H5, I5, q5⟩

/-! ### truth -/
/-- a value's truth by the abstract heap -/
def TruV (K : PySem.W.Frag) (x : V) (H : Hp) (k : Bool) : Prop :=
  match x with
  | .non => k = false
  | .bl b => k = b
  | .int i => k = (i != 0)
  | .str y => y.length ≤ sizeLine ∧ k = ((y.length : Int) != 0)
  | .byt y => y.size ≤ sizeLine ∧ k = ((y.size : Int) != 0)
  | .ref p => (∃ xs, SqL K H p xs ∧ k = !xs.isEmpty) ∨ (∃ xs, SqT K H p xs ∧ k = !xs.isEmpty) ∨ ∃ kvs, H p = some (.dK kvs) ∧ k = !kvs.isEmpty
  | _ => False
theorem isEmpty_kv {κ : Type} {kvs : List (κ × V)} {vs : List (κ × Value)} (r : KV kvs vs) : (!vs.isEmpty) = !kvs.isEmpty := by
  cases r <;> rfl
theorem isEmpty_of {xs : List V} {its : List Value} (r : Vals xs its) : (!its.toArray.isEmpty) = !xs.isEmpty := by
  cases r <;> simp
theorem line63 : (sizeLine : Nat) < 2 ^ 63 := by rw [sizeLine_eq]; decide
theorem tru_ok : TruR X (fun x H Q => ∃ k, TruV X.K x H k ∧ Q k H) := by
  intro pins s σ H x v Q I rx h
  obtain ⟨k, e, q⟩ := h
  have hl := line63
  have hs : sizeLine = 16777216 := sizeLine_eq
  cases x with
  | non =>
    cases rx
    have e' : k = false := e
    subst e'
    exact truthy_none ⟨H, I, q⟩
  | bl b =>
    cases rx
    have e' : k = b := e
    subst e'
    exact wpAny_truthy_bool ⟨H, I, q⟩
  | int i =>
    obtain ⟨t, rfl⟩ := rx
    have e' : k = (i != 0) := e
    subst e'
    exact PySem.P.truthy_int ⟨H, I, q⟩
  | str y =>
    obtain ⟨t, rfl⟩ := rx
    obtain ⟨hy, e'⟩ : y.length ≤ sizeLine ∧ k = ((y.length : Int) != 0) := e
    subst e'
    exact PySem.P.truthy_str (by omega) ⟨H, I.tok _, q⟩
  | byt y =>
    obtain ⟨t, rfl⟩ := rx
    obtain ⟨hy, e'⟩ : y.size ≤ sizeLine ∧ k = ((y.size : Int) != 0) := e
    subst e'
    exact PySem.W.truthy_bytes (by omega) ⟨H, I.tok _, q⟩
  | ref p =>
    cases rx
    have e' : (∃ xs, SqL X.K H p xs ∧ k = !xs.isEmpty) ∨ (∃ xs, SqT X.K H p xs ∧ k = !xs.isEmpty) ∨ ∃ kvs, H p = some (.dK kvs) ∧ k = !kvs.isEmpty := e
    rcases e' with ⟨xs, hx, e'⟩ | ⟨xs, hx, e'⟩ | ⟨kvs, hx, e'⟩
    · subst e'
      obtain ⟨its, r, pl, hz⟩ := I.list hx
      have hlen := r.length
      exact wpAny_truthy_list pl.isList (by simp only [List.size_toArray]; omega) ⟨H, I.tok _, by rw [isEmpty_of r]; exact q⟩
    · subst e'
      obtain ⟨its, r, pl, hz⟩ := I.tuple hx
      have hlen := r.length
      exact truthy_tuple pl (by simp only [List.size_toArray]; omega) ⟨H, I.tok _, by rw [isEmpty_of r]; exact q⟩
    · subst e'
      obtain ⟨hz, hS, vs, r, m⟩ : kvs.length ≤ sizeLine ∧ (p == sysModules) = false ∧ ∃ vs, KV kvs vs ∧ s.heap.DictOf (mixKind X.prog X.w) p vs := I.hok p _ hx
      have hlen : kvs.length = vs.length := Paired.length r
      exact wpAny_truthy_dict hS m (by omega) ⟨H, I.tok _, by rw [isEmpty_kv r]; exact q⟩
  | _ => exact (show False from e).elim
/-- any expression whose test is its value's truth (a name, a call, a subscript, a field ..: he by fun _ => rfl) -/
theorem pt_truth (ha : PE X a ta) (he : ∀ whole, isTrue a X.env whole = (do let v ← whole; standAt a.pos; holding [v] (truthy v))) :
    PT X a (fun σ H Q => ta σ H fun x H' => ∃ k, TruV X.K x H' k ∧ Q k H') := by
  intro pins s σ H Q I h
  exact isTrue_plain (thn (ha pins s σ H _ I h) fun v s1 ⟨x, H1, I1, r1, q1⟩ => tru_ok pins s1 σ H1 x v Q I1 r1 q1) (he _)

/-! ### strs and bytes -/
theorem pe_byt {x : List UInt8} {k : Nat} : PE X (.Constant (.bytes x) k pos) (fun _ H Q => Q (.byt x.toArray) H) := fun _ _ _ H _ I h => PySem.W.Constant_bytes ⟨.byt x.toArray, H, I.tok _, ⟨_, rfl⟩, h⟩
theorem op_add_str : OpR X (binaryOp .Add) (fun x y H Q => ∃ i j, x = .str i ∧ y = .str j ∧ i.length + j.length ≤ sizeLine ∧ Q (.str (i ++ j)) H) := by
  intro pins s σ H x y v u Q I rx ry h
  obtain ⟨i, j, rfl, rfl, hz, q⟩ := h
  obtain ⟨t, rfl⟩ := rx
  obtain ⟨t', rfl⟩ := ry
  exact add_str (fun t' tk => ⟨.str (i ++ j), H, I.tok _, ⟨_, rfl⟩, q⟩) hz
theorem iop_add_str : OpR X (inplaceOp .Add) (fun x y H Q => ∃ i j, x = .str i ∧ y = .str j ∧ i.length + j.length ≤ sizeLine ∧ Q (.str (i ++ j)) H) := by
  intro pins s σ H x y v u Q I rx ry h
  obtain ⟨i, j, rfl, rfl, hz, q⟩ := h
  obtain ⟨t, rfl⟩ := rx
  obtain ⟨t', rfl⟩ := ry
  exact iadd_str (fun t' tk => ⟨.str (i ++ j), H, I.tok _, ⟨_, rfl⟩, q⟩) hz
theorem op_add_byt : OpR X (binaryOp .Add) (fun x y H Q => ∃ i j, x = .byt i ∧ y = .byt j ∧ i.size + j.size ≤ 16777216 ∧ Q (.byt (i ++ j)) H) := by
  intro pins s σ H x y v u Q I rx ry h
  obtain ⟨i, j, rfl, rfl, hz, q⟩ := h
  obtain ⟨t, rfl⟩ := rx
  obtain ⟨t', rfl⟩ := ry
  exact PySem.W.KBy.add_bytes hz (fun t' tk => ⟨.byt (i ++ j), H, I.tok _, ⟨_, rfl⟩, q⟩)

def PlainIxT (b : Expr) : Prop := ∀ o i, subscripted b false o i = operate [o, i] (getItem o i)
/-- s[i], 0 ≤ i < len -/
theorem pe_item_str (ha : PE X a ta) (hb : PE X b tb) (hs : PlainIxT b) :
    PE X (.Subscript a b pos) (tOp (fun x y H Q => ∃ z i c, x = .str z ∧ y = .int i ∧ 0 ≤ i ∧ i < 2 ^ 63 ∧ i < z.length ∧ z.cps[i.toNat]? = some c ∧ Q (.str ⟨#[c]⟩) H) ta tb) := by
  intro pins s σ H Q I h
  refine Subscript_ (binT ha hb I h fun v u s2 x y H2 I2 rx ry q => ?_)
  obtain ⟨z, i, c, rfl, rfl, h0, h63, h1, hc, q⟩ := q
  obtain ⟨t, rfl⟩ := rx
  obtain ⟨t', rfl⟩ := ry
  have e : seqIndex? i z.length = some i.toNat := PySem.StrLaws.seqIndex_nonneg h0 h1
  exact tail_any (typeIs_str s2 z t) slot_str_getitem.lookup (getItem_str (c := c) (by
    have e1 : decide (i < -(2 ^ 63 : Int)) = false := decide_eq_false (by omega)
    have e2 : decide (i ≥ 2 ^ 63) = false := decide_eq_false (by omega)
    rw [e1, e2] <;> rfl) (by rw [e]; exact hc) ⟨.str ⟨#[c]⟩, H2, I2.tok _, ⟨_, rfl⟩, q⟩) (hs _ _)
/-- b[i], 0 ≤ i < len -/
theorem pe_item_byt (ha : PE X a ta) (hb : PE X b tb) (hs : PlainIxT b) :
    PE X (.Subscript a b pos) (tOp (fun x y H Q => ∃ (z : List UInt8) (i : Int), x = .byt z.toArray ∧ y = .int i ∧ z.length ≤ sizeLine ∧ 0 ≤ i ∧ i < z.length ∧ Q (.int ((z.getD i.toNat 0).toNat : Nat)) H) ta tb) := by
  intro pins s σ H Q I h
  refine Subscript_ (binT ha hb I h fun v u s2 x y H2 I2 rx ry q => ?_)
  obtain ⟨z, i, rfl, rfl, hz, h0, h1, q⟩ := q
  obtain ⟨t, rfl⟩ := rx
  obtain ⟨t', rfl⟩ := ry
  have hl : sizeLine = 16777216 := sizeLine_eq
  exact tail_any (PySem.W.typeIs_bytes s2 z.toArray t) PySem.W.FB.slot_bytes_getitem.lookup (PySem.W.getItem_bytes (by omega) h0 h1 ⟨.int ((z.getD i.toNat 0).toNat : Nat), H2, I2.tok _, ⟨_, rfl⟩, q⟩) (hs _ _)

/-! ### scalar builtins, by CallR -/
theorem vals1 {x : V} {us : List Value} (r : Vals [x] us) : ∃ u, us = [u] ∧ RelV x u := by
  cases r with
  | cons r1 r2 => cases r2; exact ⟨_, rfl, r1⟩
theorem vals2 {x y : V} {us : List Value} (r : Vals [x, y] us) : ∃ u w', us = [u, w'] ∧ RelV x u ∧ RelV y w' := by
  cases r with
  | cons r1 r2 =>
    cases r2 with
    | cons r3 r4 => cases r4; exact ⟨_, _, rfl, r1, r3⟩
theorem call_abs : CallR X (.builtin "abs") (fun xs H Q => ∃ i, xs = [.int i] ∧ Q (.int (if i < 0 then -i else i)) H) := by
  intro pins s σ H xs us Q I r h
  obtain ⟨i, rfl, q⟩ := h
  obtain ⟨u, rfl, t, rfl⟩ := vals1 r
  exact call_abs_int fun u tk => ⟨.int (if i < 0 then -i else i), H, I.tok _, ⟨_, rfl⟩, q⟩
theorem call_max2 (hc : X.calm = true) : CallR X (.builtin "max") (fun xs H Q => ∃ i j, xs = [.int i, .int j] ∧ Q (.int (if j > i then j else i)) H) := by
  intro pins s σ H xs us Q I r h
  obtain ⟨i, j, rfl, q⟩ := h
  obtain ⟨u, w', rfl, ⟨t, rfl⟩, ⟨t', rfl⟩⟩ := vals2 r
  refine max_two_ints (I.ok.hd hc) fun h' tk k => ⟨_, H, I.kept k, ?_, q⟩
  by_cases hj : j > i
  · rw [if_pos hj, if_pos hj]; exact ⟨_, rfl⟩
  · rw [if_neg hj, if_neg hj]; exact ⟨_, rfl⟩
theorem call_min2 (hc : X.calm = true) : CallR X (.builtin "min") (fun xs H Q => ∃ i j, xs = [.int i, .int j] ∧ Q (.int (if j < i then j else i)) H) := by
  intro pins s σ H xs us Q I r h
  obtain ⟨i, j, rfl, q⟩ := h
  obtain ⟨u, w', rfl, ⟨t, rfl⟩, ⟨t', rfl⟩⟩ := vals2 r
  refine min_two_ints (I.ok.hd hc) fun h' tk k => ⟨_, H, I.kept k, ?_, q⟩
  by_cases hj : j < i
  · rw [if_pos hj, if_pos hj]; exact ⟨_, rfl⟩
  · rw [if_neg hj, if_neg hj]; exact ⟨_, rfl⟩
theorem call_int1 : CallR X (.type "int") (fun xs H Q => (∃ i, xs = [.int i] ∧ Q (.int i) H) ∨ ∃ k, xs = [.bl k] ∧ Q (.int (if k then 1 else 0)) H) := by
  intro pins s σ H xs us Q I r h
  rcases h with ⟨i, rfl, q⟩ | ⟨k, rfl, q⟩
  · obtain ⟨u, rfl, t, rfl⟩ := vals1 r
    exact call_int_int ⟨.int i, H, I, ⟨_, rfl⟩, q⟩
  · obtain ⟨u, rfl, r1⟩ := vals1 r
    cases r1
    exact call_int_bool ⟨.int (if k then 1 else 0), H, I.tok _, ⟨_, rfl⟩, q⟩
theorem call_bool1 : CallR X (.type "bool") (fun xs H Q => (∃ i, xs = [.int i] ∧ Q (.bl (i != 0)) H) ∨ ∃ k, xs = [.bl k] ∧ Q (.bl k) H) := by
  intro pins s σ H xs us Q I r h
  rcases h with ⟨i, rfl, q⟩ | ⟨k, rfl, q⟩
  · obtain ⟨u, rfl, t, rfl⟩ := vals1 r
    exact call_bool_int ⟨.bl (i != 0), H, I, rfl, q⟩
  · obtain ⟨u, rfl, r1⟩ := vals1 r
    cases r1
    exact call_bool_bool ⟨.bl k, H, I, rfl, q⟩
theorem call_str_int : CallR X (.type "str") (fun xs H Q => ∃ i, xs = [.int i] ∧ i.natAbs.log2 < 1920 ∧ Q (.str (toString i)) H) := by
  intro pins s σ H xs us Q I r h
  obtain ⟨i, rfl, hz, q⟩ := h
  obtain ⟨u, rfl, t, rfl⟩ := vals1 r
  exact PySem.P.str_of_int hz ⟨.str _, H, I.tok _, ⟨_, rfl⟩, q⟩
theorem call_ord : CallR X (.builtin "ord") (fun xs H Q => ∃ x, xs = [.str x] ∧ x.length = 1 ∧ Q (.int (x.cps.getD 0 0 : Nat)) H) := by
  intro pins s σ H xs us Q I r h
  obtain ⟨x, rfl, hz, q⟩ := h
  obtain ⟨u, rfl, t, rfl⟩ := vals1 r
  exact ord_of_one hz ⟨.int _, H, I.tok _, ⟨_, rfl⟩, q⟩
theorem call_chr : CallR X (.builtin "chr") (fun xs H Q => ∃ i, xs = [.int i] ∧ 0 ≤ i ∧ i ≤ 1114111 ∧ Q (.str ⟨#[i.toNat]⟩) H) := by
  intro pins s σ H xs us Q I r h
  obtain ⟨i, rfl, h0, h1, q⟩ := h
  obtain ⟨u, rfl, t, rfl⟩ := vals1 r
  exact chr_of_range h0 h1 ⟨.str _, H, I.tok _, ⟨_, rfl⟩, q⟩
/-- len of a str, a bytes, a list, a tuple -/
def LenV (K : PySem.W.Frag) (x : V) (H : Hp) (n : Nat) : Prop :=
  match x with
  | .str y => y.length ≤ sizeLine ∧ n = y.length
  | .byt y => y.size ≤ sizeLine ∧ n = y.size
  | .ref p => (∃ xs, SqL K H p xs ∧ n = xs.length) ∨ ∃ xs, SqT K H p xs ∧ n = xs.length
  | _ => False
theorem call_len : CallR X (.builtin "len") (fun xs H Q => ∃ x n, xs = [x] ∧ LenV X.K x H n ∧ Q (.int n) H) := by
  intro pins s σ H xs us Q I r h
  obtain ⟨x, n, rfl, e, q⟩ := h
  obtain ⟨u, rfl, rx⟩ := vals1 r
  have hl := line63
  have hs : sizeLine = 16777216 := sizeLine_eq
  cases x with
  | str y =>
    obtain ⟨t, rfl⟩ := rx
    obtain ⟨hy, e'⟩ : y.length ≤ sizeLine ∧ n = y.length := e
    subst e'
    exact len_str (by omega) ⟨.int _, H, I.tok _, ⟨_, rfl⟩, q⟩
  | byt y =>
    obtain ⟨t, rfl⟩ := rx
    obtain ⟨hy, e'⟩ : y.size ≤ sizeLine ∧ n = y.size := e
    subst e'
    exact PySem.W.len_bytes (by omega) ⟨.int _, H, I.tok _, ⟨_, rfl⟩, q⟩
  | ref p =>
    cases rx
    have e' : (∃ xs, SqL X.K H p xs ∧ n = xs.length) ∨ ∃ xs, SqT X.K H p xs ∧ n = xs.length := e
    rcases e' with ⟨xs, hx, e'⟩ | ⟨xs, hx, e'⟩
    · subst e'
      obtain ⟨its, r', pl, hz⟩ := I.list hx
      have hlen := r'.length
      exact Calls.call_len_list pl.isList (by simp only [List.size_toArray]; omega) ⟨.int xs.length, H, I.tok _, ⟨_, by simp only [List.size_toArray]; rw [hlen]⟩, q⟩
    · subst e'
      obtain ⟨its, r', pl, hz⟩ := I.tuple hx
      have hlen := r'.length
      exact len_tuple pl (by simp only [List.size_toArray]; omega) ⟨.int xs.length, H, I.tok _, ⟨_, by simp only [List.size_toArray]; rw [hlen]⟩, q⟩
  | _ => exact (show False from e).elim
/-- divmod: a new tuple -/
theorem call_divmod : CallR X (.builtin "divmod") (fun xs H Q => ∃ i j, xs = [.int i, .int j] ∧ CDiv i j ∧ ∀ p, H p = none → Q (.ref p) (upd H p (.tup [.int (i / j), .int (i % j)]))) := by
  intro pins s σ H xs us Q I r h
  obtain ⟨i, j, rfl, ⟨h1, h2⟩, q⟩ := h
  obtain ⟨u, w', rfl, ⟨t, rfl⟩, ⟨t', rfl⟩⟩ := vals2 r
  refine divmod_int (by omega) ?_ (.inl (PyProof.noPylong_small (by omega)))
  rw [Int.fdiv_eq_ediv_of_nonneg i (by omega), Int.fmod_eq_emod_of_nonneg i (by omega)]
  have hn : H s.heap.objs.size = none := I.hok.fresh (Nat.le_refl _)
  refine ⟨.ref s.heap.objs.size, _, ?_, rfl, q _ hn⟩
  refine I.laid (fun b o e => Heap.get?_push_of_some _ e) (Nat.le_refl _) ⟨by simp only [List.length_cons, List.length_nil]; rw [sizeLine_eq]; decide, [.int (i / j) s.toks, .int (i % j) (s.toks + 1)], .cons ⟨_, rfl⟩ (.cons ⟨_, rfl⟩ .nil), ?_⟩
  exact ⟨_, Heap.get?_push_size s.heap rfl, rfl, 0, rfl⟩
end
end L2

namespace L2
open PySem PySem.Spec PyProof.Rows

/-! ### an instance, its attributes a map -/
structure ObjM (h : Heap) (x dx C : Addr) (mA : Str → Option Value) : Prop where
  obj : h.get? x = some (PySem.W.instObj C dx)
  ns : h.Ns1 dx mA
  ne : dx ≠ x

theorem lookIn_ns {h : Heap} {dx : Addr} {mA : Str → Option Value} (n : h.Ns1 dx mA) : ∃ od, h.get? dx = some od ∧ ∀ name, PySem.W.lookIn name od = some (mA name) := by
  obtain ⟨o, es, ep, ho, hd, hk, _, hm⟩ := n
  refine ⟨o, ho, fun name => ?_⟩
  have e := hm name
  unfold nsFind findBy at e
  rw [← Array.find?_toList] at e
  unfold PySem.W.lookIn
  rw [hd]
  dsimp only
  split
  · rename_i y q
    rw [q] at e
    exact congrArg some e
  · rename_i q
    rw [q] at e
    have a : es.toList.any (·.refKey) = false := by
      rw [List.any_eq_false]
      intro y hy
      obtain ⟨z, t, hkey⟩ := hk y (Array.mem_toList_iff.mp hy)
      simp [DictEntry.refKey, hkey]
    have a' : ¬ es.toList.any (·.refKey) = true := by rw [a]; exact Bool.false_ne_true
    rw [if_neg a']
    exact congrArg some e

theorem ObjM.look {h : Heap} {x dx C : Addr} {mA : Str → Option Value} (I : ObjM h x dx C mA) : ∃ od, PySem.W.InstAt h x (PySem.W.instObj C dx) C (some od) ∧ ∀ name, PySem.W.lookIn name od = some (mA name) :=
  let ⟨od, ho, hl⟩ := lookIn_ns I.ns
  ⟨od, ⟨I.obj, rfl, rfl, ho⟩, hl⟩

section
variable {prog : Program} {w : World} {A : Around} {E : Value → Shared → Prop} {s : Shared} {K : PySem.W.Frag} {x dx C f : Addr} {mA : Str → Option Value} {name : Str} {v : Value}

theorem get_map {expr : Bool} {Q : Value → Shared → Prop} (X : K.In s.heap) (I : ObjM s.heap x dx C mA) (hg : PySem.W.plainGet K C name = true) (hh : PySem.W.hasDictIn K C = true)
    (ha : PySem.W.findIn K (.ref C) name = some none) (hv : mA name = some v) (hv' : PySem.W.handedIn v = true) (h : Q v { s with toks := s.toks + 1 }) :
    wpAny (model prog w) A (getAttr (.ref x) name expr) Q E s := by
  obtain ⟨od, J, hl⟩ := I.look
  exact PySem.W.get_value X J (PySem.W.plainGet_of hg).1 (PySem.W.findObj_own hh ha rfl (by rw [hl, hv])) hv' h

theorem get_const {expr : Bool} {a : Value} {Q : Value → Shared → Prop} (X : K.In s.heap) (I : ObjM s.heap x dx C mA) (hg : PySem.W.plainGet K C name = true) (hh : PySem.W.hasDictIn K C = true)
    (ha : PySem.W.findIn K (.ref C) name = some (some a)) (hn : PySem.W.specialIn K a "__get__" = some none) (hc : PySem.W.copiedNames.contains name = false) (hv : mA name = none) (hv' : PySem.W.handedIn a = true)
    (h : Q a { s with toks := s.toks + 1 }) : wpAny (model prog w) A (getAttr (.ref x) name expr) Q E s := by
  obtain ⟨od, J, hl⟩ := I.look
  exact PySem.W.get_value X J (PySem.W.plainGet_of hg).1 (PySem.W.findObj_cls hh ha hn hv' hc (by rw [hl, hv])) hv' h

theorem get_meth {pl : Sem Bool} {Q : Value × List Value → Shared → Prop} (X : K.In s.heap) (I : ObjM s.heap x dx C mA) (hg : PySem.W.plainGet K C name = true)
    (hf : PySem.W.findIn K (.ref C) name = some (some (.ref f))) (ht : PySem.W.isFn K (.ref f) = true) (hv : mA name = none) (h : Q (.ref f, [.ref x]) s) :
    wpAny (model prog w) A (getMethod (.ref x) name pl) Q E s := by
  obtain ⟨od, J, hl⟩ := I.look
  exact PySem.W.method_fn X J (PySem.W.plainGet_of hg).1 (PySem.W.plainGet_of hg).2 hf (beq_iff_eq.mp ht) (by show (PySem.W.lookIn name od).map (·.isSome) = some false; rw [hl, hv]; rfl) h

theorem set_map {ns : List Str} {Q : Unit → Shared → Prop} (X : K.In s.heap) (I : ObjM s.heap x dx C mA)
    (hs : PySem.W.findIn K (.ref C) "__setattr__" = some (some (.builtin "object.__setattr__"))) (hp : PySem.W.plainOver K C = true) (ht : PySem.W.takerIn K C name = some none) (hh : PySem.W.hasDictIn K C = true)
    (hw : PySem.Within mA ns) (hsz : ns.length ≤ sizeLine)
    (h : ∀ h', ObjM h' x dx C (fun y => if y = name then some v else mA y) → Heap.SameBut dx s.heap h' → Q () { s with heap := h', toks := s.toks + 2 }) :
    wpAny (model prog w) A (setAttr (.ref x) name v) Q E s := by
  obtain ⟨od, J, hl⟩ := I.look
  refine PySem.W.set_plain X J hs (PySem.W.osa_open (s := { s with toks := s.toks + 1 }) (r := none) X J hp ht fun b => ?_)
  obtain ⟨cd, hc, hd'⟩ := PySem.W.any_some hh
  have hx : s.heap.get? x = some ⟨.ref C, some dx, .plain, #[]⟩ := I.obj
  refine wpAny_bind (wpAny_pure (wpAny_bind (wpAny_bind (wpAny_loadPart hx (wpAny_bind (PySem.W.Looks.here (s := { s with toks := s.toks + 1 }) (PySem.W.looks_clsIn X hc) ?_))))))
  rw [hd']
  refine wpAny_pure (a := some dx) (wpAny_bind (wpAny_pure (wpAny_bind ?_)))
  refine wpAny_nsSet1 (s := { s with toks := s.toks + 1 }) I.ns fun h' hn2 hs2 => ?_
  obtain ⟨oD, esD, epD, hoD, hdD, hcD⟩ := hn2.count (PySem.Within.cons name v hw)
  refine wpAny_bind (wpAny_lookBehind hoD (by rw [hdD]; exact pastItsLine_dict (Nat.le_trans hcD (by rw [List.length_cons]; omega))) ?_)
  exact wpAny_pure (h _ ⟨(hs2.2 _ (Ne.symm I.ne)).trans I.obj, hn2, I.ne⟩ hs2)

/-- C(..): the dict at the heap's end, the instance behind it; then its __init__ -/
theorem make_map {R : Result → Shared → Prop} {vs : List Value} {kw : List (Str × Value)} (X : K.In s.heap) (hm : PySem.W.makesIn K C = true)
    (hi : PySem.W.findIn K (.ref C) "__init__" = some (some (.ref f))) (hf : PySem.W.typeIn K (.ref f) = some (.type "function"))
    (h : codeAny (model prog w) (A.under (.builtin "type.__call__" ⟨.ref C :: vs, kw⟩)) (.call (.ref f) ⟨.ref (s.heap.objs.size + 1) :: vs, kw⟩) (PySem.W.InitBack (s.heap.objs.size + 1) R)
      { s with heap := (s.heap.push PySem.W.emptyDict).push (PySem.W.instObj C s.heap.objs.size) }) :
    codeAny (model prog w) A (.call (.ref C) ⟨vs, kw⟩) R s := by
  obtain ⟨hh, g, d, t, os⟩ := s
  exact PySem.W.make_core (PySem.W.makes_of X hm) (PySem.W.looks_findIn X hi) (fun self => PySem.W.bind_fn X self hf) (.inl rfl) h
/-- C() where there is no __init__ but object's -/
theorem make_map0 {R : Result → Shared → Prop} (X : K.In s.heap) (hm : PySem.W.makesIn K C = true)
    (hi : PySem.W.findIn K (.ref C) "__init__" = some (some (.builtin "object.__init__")))
    (hb : ∀ self, PySem.W.Looks (model prog w) s.heap (bindSpecial (.builtin "object.__init__") self) (.builtin "object.__init__", [self]))
    (h : codeAny (model prog w) (A.under (.builtin "type.__call__" ⟨[.ref C], []⟩)) (.call (.builtin "object.__init__") ⟨[.ref (s.heap.objs.size + 1)], []⟩) (PySem.W.InitBack (s.heap.objs.size + 1) R)
      { s with heap := (s.heap.push PySem.W.emptyDict).push (PySem.W.instObj C s.heap.objs.size) }) :
    codeAny (model prog w) A (.call (.ref C) ⟨[], []⟩) R s := by
  obtain ⟨hh, g, d, t, os⟩ := s
  exact PySem.W.make_core (PySem.W.makes_of X hm) (PySem.W.looks_findIn X hi) hb (.inr ⟨rfl, rfl⟩) h
end

/-! ### the attributes as a list of pairs -/
def putF (f : Str) (v : V) : List (Str × V) → List (Str × V)
  | [] => [(f, v)]
  | (g, x) :: r => if g = f then (g, v) :: r else (g, x) :: putF f v r
theorem lookup_putF (f g : Str) (v : V) : ∀ fs : List (Str × V), (putF f v fs).lookup g = if g = f then some v else fs.lookup g
  | [] => by
    show List.lookup g [(f, v)] = _
    by_cases h : g = f
    · have hb : (g == f) = true := beq_iff_eq.mpr h
      simp only [List.lookup, hb, if_pos h]
    · have hb : (g == f) = false := beq_eq_false_iff_ne.mpr h
      simp only [List.lookup, hb, if_neg h]
  | (k, x) :: r => by
    have ih := lookup_putF f g v r
    rw [show putF f v ((k, x) :: r) = (if k = f then (k, v) :: r else (k, x) :: putF f v r) from rfl]
    by_cases hk : k = f
    · rw [if_pos hk]
      by_cases h : g = k
      · have hb : (g == k) = true := beq_iff_eq.mpr h
        simp only [List.lookup, hb, if_pos (h.trans hk)]
      · have hb : (g == k) = false := beq_eq_false_iff_ne.mpr h
        simp only [List.lookup, hb, if_neg (fun e : g = f => h (e.trans hk.symm))]
    · rw [if_neg hk]
      by_cases h : g = k
      · have hb : (g == k) = true := beq_iff_eq.mpr h
        simp only [List.lookup, hb, if_neg (fun e : g = f => hk (h.symm.trans e))]
      · have hb : (g == k) = false := beq_eq_false_iff_ne.mpr h
        simp only [List.lookup, hb]
        exact ih
theorem keys_putF (f : Str) (v : V) : ∀ fs : List (Str × V), f ∈ (putF f v fs).map (·.1) ∧ ∀ g, g ∈ fs.map (·.1) → g ∈ (putF f v fs).map (·.1)
  | [] => ⟨by simp [putF], fun g h => by simp at h⟩
  | (k, x) :: r => by
    obtain ⟨i1, i2⟩ := keys_putF f v r
    rw [show putF f v ((k, x) :: r) = (if k = f then (k, v) :: r else (k, x) :: putF f v r) from rfl]
    by_cases hk : k = f
    · rw [if_pos hk]
      subst hk
      exact ⟨by simp, fun g h => by simpa using h⟩
    · rw [if_neg hk]
      refine ⟨?_, fun g h => ?_⟩
      · rw [List.map_cons]
        exact List.mem_cons_of_mem _ i1
      · rw [List.map_cons] at h ⊢
        rcases List.mem_cons.mp h with e | e
        · exact List.mem_cons.mpr (.inl e)
        · exact List.mem_cons_of_mem _ (i2 g e)
theorem length_putF (f : Str) (v : V) : ∀ fs : List (Str × V), (putF f v fs).length ≤ fs.length + 1
  | [] => by simp [putF]
  | (k, x) :: r => by
    have ih := length_putF f v r
    rw [show putF f v ((k, x) :: r) = (if k = f then (k, v) :: r else (k, x) :: putF f v r) from rfl]
    by_cases hk : k = f
    · rw [if_pos hk, List.length_cons, List.length_cons]; omega
    · rw [if_neg hk, List.length_cons, List.length_cons]; omega

theorem RelO.some_of {v : V} {o : Option Value} (r : RelO (some v) o) : ∃ u, o = some u ∧ RelV v u := by
  cases o with
  | none => exact (show False from r).elim
  | some u => exact ⟨u, rfl, r⟩
theorem RelO.none_of {o : Option Value} (r : RelO none o) : o = none := by
  cases o with
  | none => rfl
  | some u => exact (show False from r).elim
theorem handed_of {v : V} {u : Value} (r : RelV v u) : PySem.W.handedIn u = true := by
  cases v with
  | non => cases (show u = Value.none from r); rfl
  | bl b => cases (show u = Value.bool b from r); rfl
  | int i => obtain ⟨t, e⟩ := (show ∃ t, u = Value.int i t from r); cases e; rfl
  | str x => obtain ⟨t, e⟩ := (show ∃ t, u = Value.str x t from r); cases e; rfl
  | byt b => obtain ⟨t, e⟩ := (show ∃ t, u = Value.bytes b t from r); cases e; rfl
  | flt b => obtain ⟨t, e⟩ := (show ∃ t, u = Value.float b t from r); cases e; rfl
  | ref a => cases (show u = Value.ref a from r); rfl
  | ty n => cases (show u = Value.type n from r); rfl

section
variable {P : Program} {w : World} {H H' : Hp} {h h' : Heap} {a C dx : Addr} {fs fs' : List (Str × V)}
theorem ins_get (hok : HOk P w H h) (e : H a = some (.ins C dx fs)) : ∃ mA, ObjM h a dx C mA ∧ (∀ f, RelO (fs.lookup f) (mA f)) ∧ PySem.Within mA (fs.map (·.1)) ∧ fs.length ≤ 1000 ∧ H dx = some (.own a) := by
  obtain ⟨d, z, ne, ob, mA, n, r, q⟩ := (show ObjOk P w H h a (.ins C dx fs) from hok a _ e)
  exact ⟨mA, ⟨ob, n, ne⟩, r, q, z, d⟩
end

/-! ### what of the text a class must have -/
structure Cls (K : PySem.W.Frag) (C : Addr) : Prop where
  pg : PySem.W.plainGet K C Str.empty = true
  hd : PySem.W.hasDictIn K C = true
  po : PySem.W.plainOver K C = true
  sa : PySem.W.findIn K (.ref C) "__setattr__" = some (some (.builtin "object.__setattr__"))
theorem Cls.get {K : PySem.W.Frag} {C : Addr} (c : Cls K C) (f : Str) : PySem.W.plainGet K C f = true := c.pg
/-- no class of it has the name -/
def NoAttr (K : PySem.W.Frag) (C : Addr) (f : Str) : Prop := PySem.W.findIn K (.ref C) f = some none
theorem NoAttr.taker {K : PySem.W.Frag} {C : Addr} {f : Str} (n : NoAttr K C f) : PySem.W.takerIn K C f = some none := by
  unfold PySem.W.takerIn
  rw [show PySem.W.findIn K (.ref C) f = some none from n]
  rfl
/-- a constant of the class -/
structure Con (K : PySem.W.Frag) (C : Addr) (f : Str) (v : V) (u : Value) : Prop where
  at_ : PySem.W.findIn K (.ref C) f = some (some u)
  rel : RelV v u
  get : PySem.W.specialIn K u "__get__" = some none
  cp : PySem.W.copiedNames.contains f = false
/-- a method: a plain def of the class or of one above it -/
structure Meth (K : PySem.W.Frag) (C : Addr) (m : Str) (f : Addr) : Prop where
  at_ : PySem.W.findIn K (.ref C) m = some (some (.ref f))
  fn : PySem.W.isFn K (.ref f) = true
  kp : PySem.W.keepIn K (.ref f) = true

section
variable {X : Cx} {pins : List (Addr × Obj)} {σ : St} {H : Hp} {s : Shared} {a C dx : Addr} {fs : List (Str × V)} {f : Str} {v : V} {A : Around} {E : Value → Shared → Prop}

theorem getattr_ok {b : Bool} {Q : Value → Shared → Prop} (I : Inv X pins σ H s) (e : H a = some (.ins C dx fs)) (c : Cls X.K C) (n : NoAttr X.K C f) (l : fs.lookup f = some v)
    (h : ∀ u s', Inv X pins σ H s' → RelV v u → Q u s') : wpAny (model X.prog X.w) A (getAttr (.ref a) f b) Q E s := by
  obtain ⟨mA, O, r, _, _, _⟩ := ins_get I.hok e
  obtain ⟨u, hu, ru⟩ := RelO.some_of (v := v) (o := mA f) (by rw [← l]; exact r f)
  exact get_map I.kIn O (c.get f) c.hd n hu (handed_of ru) (h u _ (I.tok _) ru)

theorem getcon_ok {b : Bool} {u : Value} {Q : Value → Shared → Prop} (I : Inv X pins σ H s) (e : H a = some (.ins C dx fs)) (c : Cls X.K C) (k : Con X.K C f v u) (l : fs.lookup f = none)
    (h : ∀ s', Inv X pins σ H s' → Q u s') : wpAny (model X.prog X.w) A (getAttr (.ref a) f b) Q E s := by
  obtain ⟨mA, O, r, _, _, _⟩ := ins_get I.hok e
  have hn : mA f = none := RelO.none_of (by rw [← l]; exact r f)
  exact get_const I.kIn O (c.get f) c.hd k.at_ k.get k.cp hn (handed_of k.rel) (h _ (I.tok _))

theorem getmeth_ok {m : Str} {g : Addr} {pl : Sem Bool} {Q : Value × List Value → Shared → Prop} (I : Inv X pins σ H s) (e : H a = some (.ins C dx fs)) (c : Cls X.K C) (k : Meth X.K C m g) (l : fs.lookup m = none)
    (h : Q (.ref g, [.ref a]) s) : wpAny (model X.prog X.w) A (getMethod (.ref a) m pl) Q E s := by
  obtain ⟨mA, O, r, _, _, _⟩ := ins_get I.hok e
  have hn : mA m = none := RelO.none_of (by rw [← l]; exact r m)
  exact get_meth I.kIn O (c.get m) k.at_ k.fn hn h

theorem setattr_ok {y : V} {u : Value} {Q : Unit → Shared → Prop} (I : Inv X pins σ H s) (e : H a = some (.ins C dx fs)) (c : Cls X.K C) (n : NoAttr X.K C f) (hl : fs.length < 1000) (ry : RelV y u)
    (h : ∀ s', Inv X pins σ (upd H a (.ins C dx (putF f y fs))) s' → Q () s') : wpAny (model X.prog X.w) A (setAttr (.ref a) f u) Q E s := by
  obtain ⟨mA, O, r, wi, _, ho⟩ := ins_get I.hok e
  have hz : (fs.map (·.1)).length ≤ sizeLine := by rw [List.length_map, sizeLine_eq]; omega
  refine set_map I.kIn O c.sa c.po n.taker c.hd wi hz fun h' O' sb => h _ ?_
  have hd : ∃ o, h'.get? dx = some o := let ⟨o, _, _, e', _⟩ := O'.ns; ⟨o, e'⟩
  refine I.write (x := a) (e := dx) (by rw [e]; exact True.intro) (.inr ho) (fun b q hb z => (sb.2 b hb).trans z) hd ?_
  refine ⟨by rw [upd_ne O.ne]; exact ho, ?_, O.ne, O'.obj, _, O'.ns, fun g => ?_, fun g hg => ?_⟩
  · have := length_putF f y fs; omega
  · show RelO ((putF f y fs).lookup g) (if g = f then some u else mA g)
    rw [lookup_putF]
    by_cases q : g = f
    · rw [if_pos q, if_pos q]; exact ry
    · rw [if_neg q, if_neg q]; exact r g
  · by_cases q : g = f
    · rw [q]; exact (keys_putF f y fs).1
    · refine (keys_putF f y fs).2 g (wi g fun z => hg ?_)
      show (if g = f then some u else mA g) = none
      rw [if_neg q]; exact z

/-- a new instance, tracked, without attributes -/
theorem Inv.made (I : Inv X pins σ H s) : Inv X pins σ (upd (upd H s.heap.objs.size (.own (s.heap.objs.size + 1))) (s.heap.objs.size + 1) (.ins C s.heap.objs.size []))
    { s with heap := (s.heap.push PySem.W.emptyDict).push (PySem.W.instObj C s.heap.objs.size) } := by
  have e1 : (s.heap.push PySem.W.emptyDict).get? s.heap.objs.size = some PySem.W.emptyDict := Heap.get?_push_size s.heap rfl
  have e2 : ((s.heap.push PySem.W.emptyDict).push (PySem.W.instObj C s.heap.objs.size)).get? (s.heap.objs.size + 1) = some (PySem.W.instObj C s.heap.objs.size) := by
    have := Heap.get?_push_size (s.heap.push PySem.W.emptyDict) (o := PySem.W.instObj C s.heap.objs.size) rfl
    rwa [Heap.size_push] at this
  have e3 : (s.heap.push PySem.W.emptyDict).Ns s.heap.objs.size (fun _ => none) := ⟨PySem.W.emptyDict, #[], _, e1, rfl, (fun e he => absurd he (by simp)), fun _ => rfl⟩
  have I1 := I.laid (a := s.heap.objs.size) (o := .own (s.heap.objs.size + 1)) (h' := s.heap.push PySem.W.emptyDict) (t' := s.toks) (fun b u q => Heap.get?_push_of_some _ q) (Nat.le_refl _) ⟨_, e1⟩
  refine I1.laid (a := s.heap.objs.size + 1) (o := .ins C s.heap.objs.size []) (t' := s.toks) (fun b u q => Heap.get?_push_of_some _ q) (Nat.le_of_eq (Heap.size_push _ _)) ?_
  have ne : s.heap.objs.size ≠ s.heap.objs.size + 1 := Nat.ne_of_lt (Nat.lt_succ_self _)
  refine ⟨by rw [upd_ne ne, upd_same], Nat.zero_le _, ne, e2, fun _ => none, (Heap.Ns1.of_empty e3).at fun o q => Heap.get?_push_of_some _ q, fun _ => True.intro, fun y hy => absurd rfl hy⟩

/-- e.f where nothing but the object is asked: through attributeBase (super) and the last hold -/
theorem attr_of {prog : Program} {w : World} {env : Env} {e : Expr} {f : Str} {pos : Pos} {s : Shared} {Q : Value → Shared → Prop} (hb : attributeBase e f env (eval e env) = eval e env)
    (h : wpAny (model prog w) A (eval e env) (fun o s₁ => wpAny (model prog w) A (getAttr o f true) Q E s₁) E s) : wpAny (model prog w) A (eval (.Attribute e f pos) env) Q E s :=
  Attribute_any_ h (by rw [arm_eval_Attribute, hb])
end

/-! ### readings and rules -/
/-- e.f, an attribute of the instance -/
def tFld (K : PySem.W.Frag) (ta : TE) (f : Str) : TE := fun σ H Q => ta σ H fun x H1 => ∃ a C dx fs v, x = .ref a ∧ H1 a = some (.ins C dx fs) ∧ Cls K C ∧ NoAttr K C f ∧ fs.lookup f = some v ∧ Q v H1
/-- e.f, a constant of the class -/
def tCon (K : PySem.W.Frag) (ta : TE) (f : Str) : TE := fun σ H Q => ta σ H fun x H1 => ∃ a C dx fs v u, x = .ref a ∧ H1 a = some (.ins C dx fs) ∧ Cls K C ∧ Con K C f v u ∧ fs.lookup f = none ∧ Q v H1
/-- e.f = value -/
def sFld (K : PySem.W.Frag) (ta tv : TE) (f : Str) : TS := fun D σ H => tv σ H fun y H1 => ta σ H1 fun x H2 => ∃ a C dx fs, x = .ref a ∧ H2 a = some (.ins C dx fs) ∧ Cls K C ∧ NoAttr K C f ∧ fs.length < 1000 ∧
  D.nx σ (upd H2 a (.ins C dx (putF f y fs)))
/-- an augmented operator on two values -/
def InOp (X : Cx) (op : Operator) (rd : V → V → Hp → VK → Prop) : Prop :=
  ∀ (pins : List (Addr × Obj)) (s : Shared) (σ : St) (H : Hp) (x y : V) (u v : Value) (Q : VK), Inv X pins σ H s → RelV x u → RelV y v → rd x y H Q → wpAny (model X.prog X.w) X.A (inplaceOp op u v) (EP X pins σ Q) X.xe s
/-- e.f op= value -/
def sFldAug (K : PySem.W.Frag) (ta tv : TE) (rd : V → V → Hp → VK → Prop) (f : Str) : TS := fun D σ H => ta σ H fun x H1 => ∃ a C dx fs v, x = .ref a ∧ H1 a = some (.ins C dx fs) ∧ Cls K C ∧ NoAttr K C f ∧ fs.lookup f = some v ∧
  tv σ H1 fun y H2 => rd v y H2 fun z H3 => ∃ dx' fs', H3 a = some (.ins C dx' fs') ∧ fs'.length < 1000 ∧ D.nx σ (upd H3 a (.ins C dx' (putF f z fs')))

section
variable {X : Cx} {o e value : Expr} {f : Str} {pos pos' tpos : Pos} {ta tv : TE}
theorem pe_fld (he : PE X e ta) (hb : attributeBase e f X.env (eval e X.env) = eval e X.env) : PE X (.Attribute e f pos) (tFld X.K ta f) := by
  intro pins s σ H Q I h
  refine attr_of hb (thn (he pins s σ H _ I h) fun u s1 ⟨x, H1, I1, rx, a, C, dx, fs, v, ex, ea, c, n, l, q⟩ => ?_)
  subst ex
  obtain rfl : u = Value.ref a := rx
  exact getattr_ok I1 ea c n l fun u' s2 I2 ru => ⟨v, H1, I2, ru, q⟩
theorem pe_con (he : PE X e ta) (hb : attributeBase e f X.env (eval e X.env) = eval e X.env) : PE X (.Attribute e f pos) (tCon X.K ta f) := by
  intro pins s σ H Q I h
  refine attr_of hb (thn (he pins s σ H _ I h) fun u s1 ⟨x, H1, I1, rx, a, C, dx, fs, v, u0, ex, ea, c, k, l, q⟩ => ?_)
  subst ex
  obtain rfl : u = Value.ref a := rx
  exact getcon_ok I1 ea c k l fun s2 I2 => ⟨v, H1, I2, k.rel, q⟩
theorem ps_fld (ha : PE X o ta) (hv : PE X value tv) (hs : swapsWith value (some (.Attribute o f pos')) pos.line X.env = pure false) : PS X (.Assign [.Attribute o f pos'] value pos) (sFld X.K ta tv f) := by
  intro pins s σ H D I h
  refine plainObj_wpAny_Assign_Attribute (thn (hv pins s σ H _ I h) fun u s1 ⟨y, H1, I1, ry, q⟩ => thn (ha pins s1 σ H1 _ I1 q) fun ov s2 ⟨x, H2, I2, rx, a, C, dx, fs, ex, ea, c, n, l, q2⟩ => ?_) hs
  subst ex
  obtain rfl : ov = Value.ref a := rx
  exact setattr_ok I2 ea c n l ry fun s3 I3 => ⟨σ, _, I3, q2⟩
theorem ps_fldaug {op : Operator} {rd : V → V → Hp → VK → Prop} (ha : PE X o ta) (hv : PE X value tv) (hop : InOp X op rd) : PS X (.AugAssign (.Attribute o f tpos) op value pos) (sFldAug X.K ta tv rd f) := by
  intro pins s σ H D I h
  refine wpAny_AugAssign_AttributeAny (thn (ha pins s σ H _ I h) fun ov s1 ⟨x, H1, I1, rx, a, C, dx, fs, v, ex, ea, c, n, l, q⟩ => ?_)
  subst ex
  obtain rfl : ov = Value.ref a := rx
  refine getattr_ok I1 ea c n l fun u s2 I2 ru => thn (hv pins s2 σ H1 _ I2 q) fun w3 s3 ⟨y, H2, I3, ry, q3⟩ => thn (hop pins s3 σ H2 v y u w3 _ I3 ru ry q3) fun w4 s4 ⟨z, H3, I4, rz, dx', fs', ea', l', q4⟩ => ?_
  exact setattr_ok I4 ea' c n l' rz fun s5 I5 => ⟨σ, _, I5, q4⟩
def rAdd : V → V → Hp → VK → Prop := fun x y H Q => ∃ i j, x = .int i ∧ y = .int j ∧ Q (.int (i + j)) H
def rSub : V → V → Hp → VK → Prop := fun x y H Q => ∃ i j, x = .int i ∧ y = .int j ∧ Q (.int (i - j)) H
theorem in_add : InOp X .Add rAdd := by
  rintro pins s σ H x y u v Q I rx ry ⟨i, j, rfl, rfl, q⟩
  obtain ⟨t, rfl⟩ := (show ∃ t, u = Value.int i t from rx)
  obtain ⟨t', rfl⟩ := (show ∃ t', v = Value.int j t' from ry)
  exact PyProof.Rows.iadd_int ⟨.int (i + j), H, I.tok _, ⟨_, rfl⟩, q⟩
theorem in_sub : InOp X .Sub rSub := by
  rintro pins s σ H x y u v Q I rx ry ⟨i, j, rfl, rfl, q⟩
  obtain ⟨t, rfl⟩ := (show ∃ t, u = Value.int i t from rx)
  obtain ⟨t', rfl⟩ := (show ∃ t', v = Value.int j t' from ry)
  exact PyProof.Rows.isub_int ⟨.int (i - j), H, I.tok _, ⟨_, rfl⟩, q⟩

/-- what is between an instance and its method: the tree of a method call -/
theorem methcall_of {pl : Sem Bool} {m : Str} {apos : Pos} {args : List Expr} {pins : List (Addr × Obj)} {s : Shared} {σ : St} {H : Hp} {Q : Value → Shared → Prop} {te : TE} (he : PE X e te) (I : Inv X pins σ H s)
    (h : te σ H fun x H1 => ∃ a C dx fs g, x = .ref a ∧ H1 a = some (.ins C dx fs) ∧ Cls X.K C ∧ Meth X.K C m g ∧ fs.lookup m = none ∧
      ∀ s1, Inv X pins σ H1 s1 → wpAny (model X.prog X.w) X.A (callWith pos (.ref g) [.ref a] (backTo pos (starEach args X.env)) (backToKw pos (keywordEach [] X.env))) Q X.xe s1)
    (ht : eval (.Call (.Attribute e m apos) args [] pos) X.env = (do
      let ov ← eval e X.env
      standAt apos.atName
      let (f, first) ← holding [ov] (getMethod ov m pl)
      callWith pos f first (backTo pos (starEach args X.env)) (backToKw pos (keywordEach [] X.env)))) :
    wpAny (model X.prog X.w) X.A (eval (.Call (.Attribute e m apos) args [] pos) X.env) Q X.xe s := by
  refine PySem.W.methodCall_KW (pl := pl) (thn (he pins s σ H _ I h) fun u s1 ⟨x, H1, I1, rx, a, C, dx, fs, g, ex, ea, c, k, l, q⟩ => ?_) ht
  subst ex
  obtain rfl : u = Value.ref a := rx
  exact getmeth_ok I1 ea c k l (q s1 I1)
end

/-! ### isinstance -/
section
variable {X : Cx} {pins : List (Addr × Obj)} {σ : St} {H : Hp} {s : Shared} {A : Around} {E : Value → Shared → Prop} {Q : Value → Shared → Prop} {c : Value} {b : Bool}
/-- the type of a value, as the fragment's deciders take it; for an instance its class -/
inductive TyOf (K : PySem.W.Frag) (H : Hp) : V → Value → Prop where
  | non : TyOf K H .non (.type "NoneType")
  | bl (x : Bool) : TyOf K H (.bl x) (.type "bool")
  | int (i : Int) : TyOf K H (.int i) (.type "int")
  | str (x : Str) : TyOf K H (.str x) (.type "str")
  | flt (x : UInt64) : TyOf K H (.flt x) (.type "float")
  | lst {a : Addr} {xs : List V} (e : H a = some (.lst xs)) : TyOf K H (.ref a) (.type "list")
  | frz {a : Addr} {o : Obj} {xs : List V} (e : H a = some (.frz o (.lst xs))) : TyOf K H (.ref a) (.type "list")
  | tup {a : Addr} {xs : List V} (e : H a = some (.tup xs)) : TyOf K H (.ref a) (.type "tuple")
  | dK {a : Addr} {kvs : List (Key × V)} (e : H a = some (.dK kvs)) : TyOf K H (.ref a) (.type "dict")
  | dT {a : Addr} {kvs : List (List Key × V)} (e : H a = some (.dT kvs)) : TyOf K H (.ref a) (.type "dict")
  | ins {a C dx : Addr} {fs : List (Str × V)} (e : H a = some (.ins C dx fs)) (cl : Cls K C) (ha : PySem.W.findIn K (.ref C) "__class__" = some (some (.builtin "object.__class__")))
      (hn : PySem.W.specialIn K (.builtin "object.__class__") "__get__" = some (some (.builtin "getset_descriptor.__get__"))) (htk : PySem.W.takesIn K (.builtin "object.__class__") = some true)
      (hm : PySem.W.mroIn K C (.type "object") = some true) : TyOf K H (.ref a) (.ref C)
/-- isinstance(x, c) for one class c, a built-in or an own one: kitOne's answer -/
theorem isinst_ok {x : V} {u t : Value} (I : Inv X pins σ H s) (rx : RelV x u) (ty : TyOf X.K H x t) (e : PySem.W.kitOne X.K t c = some b) (h : ∀ tk, Q (.bool b) { s with toks := tk }) :
    wpAny (model X.prog X.w) A (call (.builtin "isinstance") [u, c]) Q E s := by
  cases ty with
  | non => cases (show u = Value.none from rx); exact PySem.W.kia_one PySem.W.kitx_none I.kIn True.intro e (fun z => nomatch z) h
  | bl y => cases (show u = Value.bool y from rx); exact PySem.W.kia_one PySem.W.kitx_bool I.kIn True.intro e (fun z => nomatch z) h
  | int i => obtain ⟨t, q⟩ := (show ∃ t, u = Value.int i t from rx); cases q; exact PySem.W.kia_one PySem.W.kitx_int I.kIn True.intro e (fun z => nomatch z) h
  | str y => obtain ⟨t, q⟩ := (show ∃ t, u = Value.str y t from rx); cases q; exact PySem.W.kia_one PySem.W.kitx_str I.kIn True.intro e (fun z => nomatch z) h
  | flt y => obtain ⟨t, q⟩ := (show ∃ t, u = Value.float y t from rx); cases q; exact PySem.W.kia_one PySem.W.kitx_float I.kIn True.intro e (fun z => nomatch z) h
  | @lst a xs ea =>
    cases (show u = Value.ref a from rx)
    obtain ⟨_, _, n, _, h1⟩ := (show ObjOk X.prog X.w H s.heap a (.lst xs) from I.hok a _ ea)
    exact PySem.W.kia_one PySem.W.kitx_list I.kIn ⟨_, h1, rfl⟩ e (fun z => nomatch z) h
  | @frz a ob xs ea =>
    cases (show u = Value.ref a from rx)
    obtain ⟨_, _, _, n, _, h1⟩ := (show ObjOk X.prog X.w H s.heap a (.frz ob (.lst xs)) from I.hok a _ ea)
    exact PySem.W.kia_one PySem.W.kitx_list I.kIn ⟨_, h1, rfl⟩ e (fun z => nomatch z) h
  | @tup a xs ea =>
    cases (show u = Value.ref a from rx)
    obtain ⟨_, _, _, p⟩ := (show ObjOk X.prog X.w H s.heap a (.tup xs) from I.hok a _ ea)
    obtain ⟨o, h1, h2, _⟩ := p
    exact PySem.W.kia_one PySem.W.kitx_tuple I.kIn ⟨o, h1, h2⟩ e (fun z => nomatch z) h
  | @dK a kvs ea =>
    cases (show u = Value.ref a from rx)
    obtain ⟨_, _, vs, _, p⟩ := (show ObjOk X.prog X.w H s.heap a (.dK kvs) from I.hok a _ ea)
    obtain ⟨o, es, ep, h1, h2, _⟩ := p
    exact PySem.W.kia_one PySem.W.kitx_dict I.kIn ⟨o, h1, h2.1⟩ e (fun z => nomatch z) h
  | @dT a kvs ea =>
    cases (show u = Value.ref a from rx)
    obtain ⟨_, _, xs, _, o, es, ep, h1, h2, _⟩ := (show ObjOk X.prog X.w H s.heap a (.dT kvs) from I.hok a _ ea)
    exact PySem.W.kia_one PySem.W.kitx_dict I.kIn ⟨o, h1, h2.1⟩ e (fun z => nomatch z) h
  | @ins a C dx fs ea cl ha hn htk hm =>
    cases (show u = Value.ref a from rx)
    obtain ⟨mA, O, _⟩ := ins_get I.hok ea
    obtain ⟨od, J, _⟩ := O.look
    exact PySem.W.kia_one (PySem.W.kitx_own (cl.get _) cl.hd ha hn htk hm) I.kIn J e (fun z => nomatch z) h
end
end L2

namespace L2
open PySem PySem.Spec PyProof.Rows

/-! ### room -/
structure Room (k : Nat) (A : Around) : Prop where
  hd : A.handled = none
  dp : A.depth + 3 * k + 5 < recursionLimit
  un : A.units + 16 * k + 200 < cLine
theorem Room.mono {j k : Nat} {A : Around} (r : Room k A) (h : j ≤ k) : Room j A := ⟨r.hd, by have := r.dp; omega, by have := r.un; omega⟩
theorem Room.deeper {k : Nat} {A : Around} (r : Room (k + 1) A) (env : Env) : Room k (A.deeper env) :=
  ⟨r.hd, by have := r.dp; show A.depth + 1 + 3 * k + 5 < _; omega, by have := r.un; show A.units + 3 + 16 * k + 200 < _; omega⟩
theorem Room.in1 {k : Nat} {A : Around} (r : Room (k + 1) A) : Room k A.in1 :=
  ⟨r.hd, by have := r.dp; show A.depth + 3 * k + 5 < _; omega, by have := r.un; show A.units + 1 + 16 * k + 200 < _; omega⟩
theorem make_depth {A : Around} {C : Addr} {us : List Value} {kw : List (Str × Value)} : (A.under (.builtin "type.__call__" ⟨.ref C :: us, kw⟩)).depth = A.depth + 1 := by
  first | rfl | simp [Around.under, Code.weight, Code.isCreation, Code.isGuard, Code.isCaller, Code.frames, Code.isFrame, guardIds]
theorem make_units {A : Around} {C : Addr} {us : List Value} {kw : List (Str × Value)} : (A.under (.builtin "type.__call__" ⟨.ref C :: us, kw⟩)).units = A.units + 1 := by
  first | rfl | simp [Around.under, Code.cUnits, Code.frames, Code.isFrame]
theorem Room.make {k : Nat} {A : Around} (r : Room (k + 1) A) (C : Addr) (us : List Value) (kw : List (Str × Value)) : Room k (A.under (.builtin "type.__call__" ⟨.ref C :: us, kw⟩)) :=
  ⟨r.hd, by have := r.dp; rw [make_depth]; omega, by have := r.un; rw [make_units]; omega⟩
theorem Room.depth {k : Nat} {A : Around} (r : Room k A) : A.depth < recursionLimit := by have := r.dp; omega
theorem Room.units {k : Nat} {A : Around} (r : Room k A) : A.units + 64 < cLine := by have := r.un; omega
theorem Room.units0 {k : Nat} {A : Around} (r : Room k A) : A.units < cLine := by have := r.un; omega

/-! ### argument lists and displays -/
def tNil : TA := fun _ H Q => Q [] H
def tCons (ta : TE) (tr : TA) : TA := fun σ H Q => ta σ H fun x H1 => tr σ H1 fun xs H2 => Q (x :: xs) H2
section
variable {X : Cx} {e : Expr} {es : List Expr} {te : TE} {t : TA} {pos : Pos}
theorem pa_nil : PA X [] tNil := fun _ _ _ _ H Q I h => Calls.spliced_nil ⟨[], H, I, .nil, h⟩
theorem pa_cons (ha : PE X e te) (hr : PA X es t) (hs : starEach (e :: es) X.env = (false, eval e X.env) :: starEach es X.env := by rfl) : PA X (e :: es) (tCons te t) := by
  intro pos pins s σ H Q I h
  rw [hs]
  show wpAny _ _ (spliced ((false, eval e X.env) :: backTo pos (starEach es X.env))) _ _ s
  refine Calls.spliced_cons (thn (ha pins s σ H _ I h) fun u s1 ⟨x, H1, I1, r1, q1⟩ => ?_)
  exact thn (hr pos pins s1 σ H1 _ I1 q1) fun us s2 ⟨xs, H2, I2, r2, q2⟩ => ⟨x :: xs, H2, I2, .cons r1 r2, q2⟩

/-- a tuple, a list of written items -/
def tTup (t : TA) : TE := fun σ H Q => t σ H fun xs H1 => xs.length ≤ sizeLine ∧ ∀ p, H1 p = none → Q (.ref p) (upd H1 p (.tup xs))
def tLst (t : TA) : TE := fun σ H Q => t σ H fun xs H1 => xs.length ≤ sizeLine ∧ ∀ p, H1 p = none → Q (.ref p) (upd H1 p (.lst xs))
theorem pe_tup {x1} (h : PA X es t) : PE X (.Tuple es x1 pos) (tTup t) := by
  intro pins s σ H Q I hq
  refine wpAny_Tuple_spliced (thn (h pos pins s σ H _ I hq) fun us s1 ⟨xs, H1, I1, r, z, q⟩ => ⟨by rw [← r.length]; exact z, ?_⟩)
  have hf : H1 s1.heap.objs.size = none := I1.hok.fresh (Nat.le_refl _)
  refine ⟨.ref s1.heap.objs.size, upd H1 s1.heap.objs.size (.tup xs), I1.laid (t' := s1.toks) (fun b u e => Heap.get?_push_of_some _ e) (Nat.le_refl _) ?_, rfl, q _ hf⟩
  exact ⟨z, us, r, ⟨_, Heap.get?_push_size _ rfl, rfl, _, rfl⟩⟩
theorem pe_lst (h : PA X es t) : PE X (.List es pos) (tLst t) := by
  intro pins s σ H Q I hq
  refine wpAny_List_spliced (thn (h pos pins s σ H _ I hq) fun us s1 ⟨xs, H1, I1, r, z, q⟩ => ⟨by rw [← r.length]; exact z, ?_⟩)
  have hf : H1 s1.heap.objs.size = none := I1.hok.fresh (Nat.le_refl _)
  refine ⟨.ref s1.heap.objs.size, upd H1 s1.heap.objs.size (.lst xs), I1.laid (t' := s1.toks) (fun b u e => Heap.get?_push_of_some _ e) (Nat.le_refl _) ?_, rfl, q _ hf⟩
  exact ⟨z, us, 0, r, Heap.get?_push_size _ rfl⟩
end

/-! ### what a def promises -/
/-- a def's promise: the bound arguments in the parameters' order, the heap, the wanted end, the wanted exception -/
abbrev Sp := List V → Hp → VK → XK → Prop
/-- how an exception lies behind a call (file 08 gives it): the callers' frames, abstract heap and state ahead of the call, the wish, the exception, the state -/
abbrev CXT := List Env → Hp → Shared → XK → Value → Shared → Prop

/-- the state at a call -/
structure Env0 (P : Program) (w : World) (K : PySem.W.Frag) (mg : Str → Option Value) (base : Heap) (A : Around) (outer : List Env) (s : Shared) (H : Hp) : Prop where
  frames : A.frames = some outer
  mod : Mod K mg base
  bs : ∀ b o, base.get? b = some o → s.heap.get? b = some o ∧ H b = none
  bsz : base.objs.size ≤ s.heap.objs.size
  funs : s.heap.FunFrames base outer
  frf : ∀ b ∈ frs outer, H b = none
  hok : HOk P w H s.heap
  bare : AllBare s.gens
/-- a call's end -/
def CE (outer : List Env) (P : Program) (w : World) (H : Hp) (s : Shared) (Q : VK) (u : Value) (s' : Shared) : Prop :=
  ∃ v H', s'.os = s.os ∧ AllBare s'.gens ∧ Un (frs outer) [] H H' s.heap s'.heap ∧ HOk P w H' s'.heap ∧ RelV v u ∧ Q v H'
def CR (CX : CXT) (outer : List Env) (P : Program) (w : World) (H : Hp) (s : Shared) (Q : VK) (E : XK) (r : Result) (s' : Shared) : Prop :=
  match r with
  | .ok (.ret u) => CE outer P w H s Q u s'
  | .ok _ => False
  | .error e => CX outer H s E e s'
structure FnOk (P : Program) (w : World) (K : PySem.W.Frag) (mg : Str → Option Value) (base : Heap) (CX : CXT) (k : Nat) (f : Addr) (fd : FuncData) (ps : List Str) (sp : Sp) : Prop where
  len : ∀ vs H Q E, sp vs H Q E → vs.length = ps.length
  run : ∀ (A : Around) (outer : List Env) (s : Shared) (H : Hp) (args : Args) (us : List Value) (vs : List V) (Q : VK) (E : XK), Room k A → Env0 P w K mg base A outer s H → BindsTo s fd args (ps.zip us) → Vals vs us → sp vs H Q E →
    codeAny (model P w) A (.call (.ref f) args) (CR CX outer P w H s Q E) s
theorem FnOk.mono {P : Program} {w : World} {K : PySem.W.Frag} {mg : Str → Option Value} {base : Heap} {CX : CXT} {j k : Nat} {f : Addr} {fd : FuncData} {ps : List Str} {sp : Sp} (F : FnOk P w K mg base CX j f fd ps sp) (h : j ≤ k) :
    FnOk P w K mg base CX k f fd ps sp := ⟨F.len, fun A outer s H args us vs Q E hr => F.run A outer s H args us vs Q E (hr.mono h)⟩
/-- a weaker promise -/
theorem FnOk.imp {P : Program} {w : World} {K : PySem.W.Frag} {mg : Str → Option Value} {base : Heap} {CX : CXT} {k : Nat} {f : Addr} {fd : FuncData} {ps : List Str} {sp sp' : Sp} (F : FnOk P w K mg base CX k f fd ps sp)
    (h : ∀ vs H Q E, sp' vs H Q E → sp vs H Q E) : FnOk P w K mg base CX k f fd ps sp' :=
  ⟨fun vs H Q E q => F.len vs H Q E (h _ _ _ _ q), fun A outer s H args us vs Q E hr he hb hv hs => F.run A outer s H args us vs Q E hr he hb hv (h _ _ _ _ hs)⟩

theorem Env0.make {P : Program} {w : World} {K : PySem.W.Frag} {mg : Str → Option Value} {base : Heap} {A : Around} {outer : List Env} {s : Shared} {H : Hp} (e : Env0 P w K mg base A outer s H) (C : Addr) (us : List Value) (kw : List (Str × Value)) :
    Env0 P w K mg base (A.under (.builtin "type.__call__" ⟨.ref C :: us, kw⟩)) outer s H := ⟨by first | exact e.frames | (simpa [Around.under, Code.envs, Code.isFrame, pushEnvs] using e.frames), e.mod, e.bs, e.bsz, e.funs, e.frf, e.hok, e.bare⟩
theorem Env0.in1 {P : Program} {w : World} {K : PySem.W.Frag} {mg : Str → Option Value} {base : Heap} {A : Around} {outer : List Env} {s : Shared} {H : Hp} (e : Env0 P w K mg base A outer s H) :
    Env0 P w K mg base A.in1 outer s H := ⟨e.frames, e.mod, e.bs, e.bsz, e.funs, e.frf, e.hok, e.bare⟩

section
variable {X : Cx} {pins : List (Addr × Obj)} {σ : St} {H : Hp} {s s' : Shared}
/-- from a body: what a callee wants -/
theorem Inv.env0 (I : Inv X pins σ H s) : Env0 X.prog X.w X.K X.mg X.base X.A X.stack s H :=
  ⟨I.ok.frames, I.ok.mod, I.bs, Nat.le_trans I.ok.bsz I.sz, I.stack, I.stkFree, I.hok, I.bare⟩
/-- behind a call -/
theorem Inv.after {Q : VK} {u : Value} (I : Inv X pins σ H s) (h : CE X.stack X.prog X.w H s Q u s') : EP X pins σ Q u s' := by
  obtain ⟨v, H', os, bare, un, hok, r, q⟩ := h
  obtain ⟨hh, g, d, t, os'⟩ := s'
  obtain rfl : os' = s.os := os
  exact ⟨v, H', I.call (h' := hh) (g' := g) (d' := d) (t' := t) (ch := []) un hok bare (fun b z => absurd z (by simp)), r, q⟩
end

/-! ### calls -/
/-- f(..): the written arguments, then the defaults dvs; E: what is wanted of an exception -/
def tCall (sp : Sp) (dvs : List V) (E : XK) (t : TA) : TE := fun σ H Q => t σ H fun vs H1 => sp (vs ++ dvs) H1 Q E
/-- o.m(..) of an instance of the class at C -/
def tMeth (C : Addr) (m : Str) (sp : Sp) (dvs : List V) (E : XK) (ta : TE) (t : TA) : TE := fun σ H Q => ta σ H fun x H1 => ∃ a dx fs, x = .ref a ∧ H1 a = some (.ins C dx fs) ∧ fs.lookup m = none ∧
  t σ H1 fun vs H2 => sp (x :: (vs ++ dvs)) H2 Q E
/-- C(..): a new instance and its dict, then __init__ -/
def tMake (C : Addr) (sp : Sp) (dvs : List V) (E : XK) (t : TA) : TE := fun σ H Q => t σ H fun vs H1 => ∀ x dx, H1 x = none → H1 dx = none → dx ≠ x →
  sp (.ref x :: (vs ++ dvs)) (upd (upd H1 dx (.own x)) x (.ins C dx [])) (fun v H2 => v = .non ∧ Q (.ref x) H2) E

/-- how the parameters are bound: us the positional arguments, kw the keywords' values by name, ds the defaults that fill up -/
def Binds (K : PySem.W.Frag) (fd : FuncData) (ps : List Str) (ds : List Value) : Prop :=
  ∀ (s : Shared) (us : List Value), K.In s.heap → (us ++ ds).length = ps.length → BindsTo s fd ⟨us, []⟩ (ps.zip (us ++ ds))
/-- every parameter is given -/
theorem Binds.all {K : PySem.W.Frag} {fd : FuncData} {ps : List Str} (h : ∀ us : List Value, us.length = ps.length → bindArgs fd ⟨us, []⟩ = pure (ps.zip us)) : Binds K fd ps [] := fun s us _ hl => by
  rw [List.append_nil] at hl ⊢
  exact .of_eq (h us hl)

/-- an exception of a callee reaches what this body wants of exceptions -/
def Passes (CX : CXT) (X : Cx) (E : XK) : Prop := ∀ (pins : List (Addr × Obj)) (σ : St) (H : Hp) (s : Shared) (e : Value) (s' : Shared), Inv X pins σ H s → CX X.stack H s E e s' → X.xe e s'

section
variable {X : Cx} {CX : CXT} {k : Nat} {f C : Addr} {fd : FuncData} {ps : List Str} {sp : Sp} {dvs : List V} {ds : List Value} {E : XK} {x m : Str} {p pos apos : Pos} {e o : Expr} {es : List Expr} {ta : TE} {t : TA}

/-- the callee runs -/
theorem run_fn {pins : List (Addr × Obj)} {σ : St} {H : Hp} {s : Shared} {Q : VK} {us : List Value} {vs : List V} (F : FnOk X.prog X.w X.K X.mg X.base CX k f fd ps sp) (hr : Room k X.A) (hb : Binds X.K fd ps ds) (hd : Vals dvs ds) (hx : Passes CX X E)
    (I : Inv X pins σ H s) (r : Vals vs us) (h : sp (vs ++ dvs) H Q E) : wpAny (model X.prog X.w) X.A (call (.ref f) us) (EP X pins σ Q) X.xe s := by
  have r2 : Vals (vs ++ dvs) (us ++ ds) := r.append hd
  have hl : (us ++ ds).length = ps.length := by rw [← r2.length]; exact F.len _ _ _ _ h
  refine wpAny_call (codeAny_mono (F.run X.A X.stack s H ⟨us, []⟩ (us ++ ds) (vs ++ dvs) Q E hr I.env0 (hb s us I.kIn hl) r2 h) fun r s' hq => ?_)
  cases r with
  | error e => exact hx pins σ H s e s' I hq
  | ok fl =>
    cases fl with
    | ret u => exact I.after hq
    | next => exact False.elim hq
    | brk => exact False.elim hq
    | cont => exact False.elim hq

theorem pe_call (F : FnOk X.prog X.w X.K X.mg X.base CX k f fd ps sp) (hr : Room k X.A) (hg : Gl X x) (hm : X.mg x = some (.ref f)) (hk : PySem.W.keepIn X.K (.ref f) = true) (hb : Binds X.K fd ps ds) (hd : Vals dvs ds) (hx : Passes CX X E)
    (ha : PA X (e :: es) t) (hdb : (x == ("__debug__" : Str)) = false := by decide) (he : starEach (e :: es) X.env = (false, eval e X.env) :: starEach es X.env := by rfl) (hpl : (backTo pos (starEach es X.env)).any (·.1) = false := by rfl) :
    PE X (.Call (.Name x p) (e :: es) [] pos) (tCall sp dvs E t) := by
  intro pins s σ H Q I h
  refine wpAny_Call_Name_kw (ld_glob I hg hm ?_ hdb)
  refine PySem.W.callWith_K (h₀ := X.base) I.ok.mod.kin hk (thn (ha pos pins s σ H _ I h) fun us s1 ⟨vs, H1, I1, r, q⟩ => ⟨I1.kIn, ?_⟩) he hpl
  exact run_fn F hr hb hd hx I1 r q
theorem pe_call0 (F : FnOk X.prog X.w X.K X.mg X.base CX k f fd ps sp) (hr : Room k X.A) (hg : Gl X x) (hm : X.mg x = some (.ref f)) (hk : PySem.W.keepIn X.K (.ref f) = true) (hb : Binds X.K fd ps ds) (hd : Vals dvs ds) (hx : Passes CX X E)
    (hdb : (x == ("__debug__" : Str)) = false := by decide) : PE X (.Call (.Name x p) [] [] pos) (tCall sp dvs E tNil) := by
  intro pins s σ H Q I h
  refine wpAny_Call_Name_kw (ld_glob I hg hm ?_ hdb)
  exact PySem.W.callWith_K0 I.kIn hk (run_fn (us := []) F hr hb hd hx I .nil h)

/-- o.m(e, ..) -/
theorem pe_meth {pl : Sem Bool} (he : PE X o ta) (c : Cls X.K C) (hm : Meth X.K C m f) (F : FnOk X.prog X.w X.K X.mg X.base CX k f fd ps sp) (hr : Room k X.A) (hb : Binds X.K fd ps ds) (hd : Vals dvs ds) (hx : Passes CX X E) (ha : PA X (e :: es) t)
    (hst : starEach (e :: es) X.env = (false, eval e X.env) :: starEach es X.env := by rfl) (hpl : (backTo pos (starEach es X.env)).any (·.1) = false := by rfl)
    (ht : eval (.Call (.Attribute o m apos) (e :: es) [] pos) X.env = (do
      let ov ← eval o X.env
      standAt apos.atName
      let (f, first) ← holding [ov] (getMethod ov m pl)
      callWith pos f first (backTo pos (starEach (e :: es) X.env)) (backToKw pos (keywordEach [] X.env))) := by rfl) :
    PE X (.Call (.Attribute o m apos) (e :: es) [] pos) (tMeth C m sp dvs E ta t) := by
  intro pins s σ H Q I h
  refine PySem.W.methodCall_KW (pl := pl) (thn (he pins s σ H _ I h) fun u s1 ⟨x, H1, I1, rx, a, dx, fs, ex, ea, l, q⟩ => ?_) ht
  subst ex
  obtain rfl : u = Value.ref a := rx
  refine getmeth_ok I1 ea c hm l ?_
  refine PySem.W.callWith_K (first := [.ref a]) (h₀ := X.base) I.ok.mod.kin hm.kp (thn (ha pos pins s1 σ H1 _ I1 q) fun us s2 ⟨vs, H2, I2, r, q2⟩ => ⟨I2.kIn, ?_⟩) hst hpl
  exact run_fn (us := .ref a :: us) (vs := .ref a :: vs) F hr hb hd hx I2 (.cons rfl r) q2
/-- o.m() -/
theorem pe_meth0 {pl : Sem Bool} (he : PE X o ta) (c : Cls X.K C) (hm : Meth X.K C m f) (F : FnOk X.prog X.w X.K X.mg X.base CX k f fd ps sp) (hr : Room k X.A) (hb : Binds X.K fd ps ds) (hd : Vals dvs ds) (hx : Passes CX X E)
    (ht : eval (.Call (.Attribute o m apos) [] [] pos) X.env = (do
      let ov ← eval o X.env
      standAt apos.atName
      let (f, first) ← holding [ov] (getMethod ov m pl)
      callWith pos f first (backTo pos (starEach [] X.env)) (backToKw pos (keywordEach [] X.env))) := by rfl) :
    PE X (.Call (.Attribute o m apos) [] [] pos) (tMeth C m sp dvs E ta tNil) := by
  intro pins s σ H Q I h
  refine PySem.W.methodCall_KW (pl := pl) (thn (he pins s σ H _ I h) fun u s1 ⟨x, H1, I1, rx, a, dx, fs, ex, ea, l, q⟩ => ?_) ht
  subst ex
  obtain rfl : u = Value.ref a := rx
  refine getmeth_ok I1 ea c hm l ?_
  exact PySem.W.callWith_K0 (first := [.ref a]) I1.kIn hm.kp (run_fn (us := [.ref a]) (vs := [.ref a]) F hr hb hd hx I1 (.cons rfl .nil) q)

/-- what a class must have to be made -/
structure Mk (K : PySem.W.Frag) (C f : Addr) : Prop where
  makes : PySem.W.makesIn K C = true
  init : PySem.W.findIn K (.ref C) "__init__" = some (some (.ref f))
  fn : PySem.W.isFn K (.ref f) = true
  kp : PySem.W.keepIn K (.ref C) = true

theorem run_make {pins : List (Addr × Obj)} {σ : St} {H : Hp} {s : Shared} {Q : VK} {us : List Value} {vs : List V} (M : Mk X.K C f) (F : FnOk X.prog X.w X.K X.mg X.base CX k f fd ps sp) (hr : Room (k + 1) X.A) (hb : Binds X.K fd ps ds) (hd : Vals dvs ds)
    (hx : Passes CX X E) (I : Inv X pins σ H s) (r : Vals vs us)
    (h : ∀ x dx, H x = none → H dx = none → dx ≠ x → sp (.ref x :: (vs ++ dvs)) (upd (upd H dx (.own x)) x (.ins C dx [])) (fun v H2 => v = .non ∧ Q (.ref x) H2) E) :
    wpAny (model X.prog X.w) X.A (call (.ref C) us) (EP X pins σ Q) X.xe s := by
  have hq := h (s.heap.objs.size + 1) s.heap.objs.size (I.hok.fresh (Nat.le_succ _)) (I.hok.fresh (Nat.le_refl _)) (Nat.ne_of_lt (Nat.lt_succ_self _))
  have I2 := Inv.made (C := C) I
  have r2 : Vals (V.ref (s.heap.objs.size + 1) :: (vs ++ dvs)) (Value.ref (s.heap.objs.size + 1) :: (us ++ ds)) := .cons rfl (r.append hd)
  have hl : (Value.ref (s.heap.objs.size + 1) :: us ++ ds).length = ps.length := by
    have e := r2.length
    rw [F.len _ _ _ _ hq] at e
    exact e.symm
  refine wpAny_call (make_map (f := f) I.kIn M.makes M.init (beq_iff_eq.mp M.fn) (codeAny_mono (F.run _ X.stack _ _ ⟨Value.ref (s.heap.objs.size + 1) :: us, []⟩ (Value.ref (s.heap.objs.size + 1) :: (us ++ ds)) _ _ E (hr.make C us [])
    (I2.env0.make C us []) (hb _ (Value.ref (s.heap.objs.size + 1) :: us) I2.kIn hl) r2 hq) fun r s' hq' => ?_))
  cases r with
  | error e => exact hx pins σ _ _ e s' I2 hq'
  | ok fl =>
    cases fl with
    | ret u =>
      obtain ⟨v, H', I3, rv, ev, q3⟩ := I2.after hq'
      subst ev
      exact ⟨rv, ⟨V.ref (s.heap.objs.size + 1), H', I3, rfl, q3⟩⟩
    | next => exact False.elim hq'
    | brk => exact False.elim hq'
    | cont => exact False.elim hq'
theorem pe_make (M : Mk X.K C f) (F : FnOk X.prog X.w X.K X.mg X.base CX k f fd ps sp) (hr : Room (k + 1) X.A) (hg : Gl X x) (hm : X.mg x = some (.ref C)) (hb : Binds X.K fd ps ds) (hd : Vals dvs ds) (hx : Passes CX X E)
    (ha : PA X (e :: es) t) (hdb : (x == ("__debug__" : Str)) = false := by decide) (he : starEach (e :: es) X.env = (false, eval e X.env) :: starEach es X.env := by rfl) (hpl : (backTo pos (starEach es X.env)).any (·.1) = false := by rfl) :
    PE X (.Call (.Name x p) (e :: es) [] pos) (tMake C sp dvs E t) := by
  intro pins s σ H Q I h
  refine wpAny_Call_Name_kw (ld_glob I hg hm ?_ hdb)
  refine PySem.W.callWith_K (h₀ := X.base) I.ok.mod.kin M.kp (thn (ha pos pins s σ H _ I h) fun us s1 ⟨vs, H1, I1, r, q⟩ => ⟨I1.kIn, ?_⟩) he hpl
  exact run_make M F hr hb hd hx I1 r q
theorem pe_make0 (M : Mk X.K C f) (F : FnOk X.prog X.w X.K X.mg X.base CX k f fd ps sp) (hr : Room (k + 1) X.A) (hg : Gl X x) (hm : X.mg x = some (.ref C)) (hb : Binds X.K fd ps ds) (hd : Vals dvs ds) (hx : Passes CX X E)
    (hdb : (x == ("__debug__" : Str)) = false := by decide) : PE X (.Call (.Name x p) [] [] pos) (tMake C sp dvs E tNil) := by
  intro pins s σ H Q I h
  refine wpAny_Call_Name_kw (ld_glob I hg hm ?_ hdb)
  exact PySem.W.callWith_K0 I.kIn M.kp (run_make (us := []) M F hr hb hd hx I .nil h)
end

/-! ### keywords -/
/-- the values of the keywords, from the left -/
def PK (X : Cx) (kws : List Keyword) (t : TA) : Prop :=
  ∀ (pos : Pos) (pins : List (Addr × Obj)) (s : Shared) (σ : St) (H : Hp) (Q : List V → Hp → Prop), Inv X pins σ H s → t σ H Q → wpAny (model X.prog X.w) X.A (evalAll ((backToKw pos (keywordEach kws X.env)).map (·.2))) (AP X pins σ Q) X.xe s
section
variable {X : Cx} {CX : CXT} {k : Nat} {f C : Addr} {fd : FuncData} {ps ks : List Str} {sp : Sp} {E : XK} {x m : Str} {p pos apos kpos : Pos} {e o : Expr} {es : List Expr} {kws : List Keyword} {te ta : TE} {t tk : TA} {nm : Option Str}
theorem pk_nil : PK X [] tNil := fun _ _ _ _ H Q I h => wpAny_evalAll_nil ⟨[], H, I, .nil, h⟩
theorem pk_cons (ha : PE X e te) (hr : PK X kws t) : PK X (⟨nm, e, kpos⟩ :: kws) (tCons te t) := by
  intro pos pins s σ H Q I h
  show wpAny _ _ (evalAll ((do let v ← eval e X.env; standAt pos; pure v) :: (backToKw pos (keywordEach kws X.env)).map (·.2))) _ _ s
  refine wpAny_evalAll_cons (wpAny_bind (thn (ha pins s σ H _ I h) fun u s1 ⟨x, H1, I1, r1, q1⟩ => wpAny_bind (wpAny_standAt (wpAny_pure ?_))))
  exact thn (hr pos pins s1 σ H1 _ I1 q1) fun us s2 ⟨xs, H2, I2, r2, q2⟩ => ⟨x :: xs, H2, I2, .cons r1 r2, q2⟩

/-- how a call with keywords binds: g puts the positional values us and the keywords' values ws (names ks) in the parameters' order, defaults among them -/
structure KBinds (K : PySem.W.Frag) (fd : FuncData) (ps ks : List Str) (g : List Value → List Value → List Value) (gV : List V → List V → List V) : Prop where
  to : ∀ (s : Shared) (us ws : List Value), K.In s.heap → (g us ws).length = ps.length → BindsTo s fd ⟨us, ks.zip ws⟩ (ps.zip (g us ws))
  rel : ∀ {vs : List V} {us : List Value} {zs : List V} {ws : List Value}, Vals vs us → Vals zs ws → Vals (gV vs zs) (g us ws)
def tCallK (sp : Sp) (gV : List V → List V → List V) (E : XK) (t tk : TA) : TE := fun σ H Q => t σ H fun vs H1 => tk σ H1 fun zs H2 => sp (gV vs zs) H2 Q E
variable {g : List Value → List Value → List Value} {gV : List V → List V → List V}
theorem run_fnk {pins : List (Addr × Obj)} {σ : St} {H : Hp} {s : Shared} {Q : VK} {us ws : List Value} {vs zs : List V} (F : FnOk X.prog X.w X.K X.mg X.base CX k f fd ps sp) (hr : Room k X.A) (hb : KBinds X.K fd ps ks g gV) (hx : Passes CX X E)
    (I : Inv X pins σ H s) (r : Vals vs us) (rz : Vals zs ws) (h : sp (gV vs zs) H Q E) : wpAny (model X.prog X.w) X.A (call (.ref f) us (ks.zip ws)) (EP X pins σ Q) X.xe s := by
  have r2 := hb.rel r rz
  have hl : (g us ws).length = ps.length := by rw [← r2.length]; exact F.len _ _ _ _ h
  refine wpAny_call (codeAny_mono (F.run X.A X.stack s H ⟨us, ks.zip ws⟩ (g us ws) (gV vs zs) Q E hr I.env0 (hb.to s us ws I.kIn hl) r2 h) fun r s' hq => ?_)
  cases r with
  | error e => exact hx pins σ H s e s' I hq
  | ok fl =>
    cases fl with
    | ret u => exact I.after hq
    | next => exact False.elim hq
    | brk => exact False.elim hq
    | cont => exact False.elim hq
/-- f(e, .., k = v, ..) -/
theorem pe_callK (F : FnOk X.prog X.w X.K X.mg X.base CX k f fd ps sp) (hr : Room k X.A) (hg : Gl X x) (hm : X.mg x = some (.ref f)) (hk : PySem.W.keepIn X.K (.ref f) = true) (hb : KBinds X.K fd ps ks g gV) (hx : Passes CX X E)
    (ha : PA X (e :: es) t) (hkw : PK X kws tk) (hall : (backToKw pos (keywordEach kws X.env)).all (·.1.isSome) = true := by rfl) (hks : (backToKw pos (keywordEach kws X.env)).filterMap (·.1) = ks := by rfl)
    (hdb : (x == ("__debug__" : Str)) = false := by decide) (he : starEach (e :: es) X.env = (false, eval e X.env) :: starEach es X.env := by rfl)
    (hpl : ((backTo pos (starEach (e :: es) X.env)).any (·.1) || (backToKw pos (keywordEach kws X.env)).any (·.1.isNone)) = false := by rfl) :
    PE X (.Call (.Name x p) (e :: es) kws pos) (tCallK sp gV E t tk) := by
  intro pins s σ H Q I h
  refine wpAny_Call_Name_kw (ld_glob I hg hm ?_ hdb)
  refine PySem.W.callWith_KW (h₀ := X.base) I.ok.mod.kin hk hall (thn (ha pos pins s σ H _ I h) fun us s1 ⟨vs, H1, I1, r, q⟩ => ?_) hpl he
  refine thn (hkw pos pins s1 σ H1 _ I1 q) fun ws s2 ⟨zs, H2, I2, rz, q2⟩ => ⟨I2.kIn, ?_⟩
  rw [hks]
  exact run_fnk F hr hb hx I2 r rz q2
end

/-! ### a def's body keeps its promise -/
/-- names: the parameters first -/
structure FnScope (N P : List Str) (sc : Scope) : Prop where
  kind : sc.kind = .function
  co : sc.isCoroutine = false
  gen : sc.isGenerator = false
  nd : N.Nodup
  pre : N.take P.length = P
  par : ∀ x ∈ P, sc.names.lookup x = some .local ∨ sc.names.lookup x = some .cell
  nofree : ∀ y ∈ sc.names, y.2 ≠ .free

theorem bindL_out {kindOf : Str → Option NameKind} {x : Str} : ∀ {binds : List (Str × Value)} {m : Str → Option Value}, (∀ v, (x, v) ∉ binds) → bindL kindOf binds m x = m x
  | [], _, _ => rfl
  | (n, v) :: r, m, h => by
    unfold bindL
    rw [bindL_out fun w hw => h w (List.mem_cons_of_mem _ hw)]
    split
    · have : x ≠ n := by rintro rfl; exact h v List.mem_cons_self
      simp [this]
    · rfl
theorem bindC_out {kindOf : Str → Option NameKind} {x : Str} : ∀ {binds : List (Str × Value)} {m : Str → Option Value}, (∀ v, (x, v) ∉ binds) → bindC kindOf binds m x = m x
  | [], _, _ => rfl
  | (n, v) :: r, m, h => by
    unfold bindC
    rw [bindC_out fun w hw => h w (List.mem_cons_of_mem _ hw)]
    split
    · rfl
    · have : x ≠ n := by rintro rfl; exact h v List.mem_cons_self
      simp [this]
theorem bindL_get {kindOf : Str → Option NameKind} {x : Str} {v : Value} : ∀ {P : List Str} {vs : List Value} {i : Nat} {m : Str → Option Value}, P.Nodup → P[i]? = some x → vs[i]? = some v → kindOf x = some .local →
    bindL kindOf (P.zip vs) m x = some v
  | [], _, _, _, _, h, _, _ => by simp at h
  | _ :: _, [], _, _, _, _, h, _ => by simp at h
  | p :: P, w :: vs, 0, m, nd, h1, h2, hk => by
    simp at h1 h2; subst h1; subst h2
    show bindL kindOf ((p, w) :: P.zip vs) m p = _
    unfold bindL
    rw [bindL_out fun v hv => (List.nodup_cons.mp nd).1 (List.of_mem_zip hv).1, if_pos hk]
    simp
  | p :: P, w :: vs, i + 1, m, nd, h1, h2, hk => by
    show bindL kindOf ((p, w) :: P.zip vs) m x = _
    unfold bindL
    exact bindL_get (i := i) (List.nodup_cons.mp nd).2 (by simpa using h1) (by simpa using h2) hk
theorem bindC_get {kindOf : Str → Option NameKind} {x : Str} {v : Value} : ∀ {P : List Str} {vs : List Value} {i : Nat} {m : Str → Option Value}, P.Nodup → P[i]? = some x → vs[i]? = some v → kindOf x ≠ some .local →
    bindC kindOf (P.zip vs) m x = some v
  | [], _, _, _, _, h, _, _ => by simp at h
  | _ :: _, [], _, _, _, _, h, _ => by simp at h
  | p :: P, w :: vs, 0, m, nd, h1, h2, hk => by
    simp at h1 h2; subst h1; subst h2
    show bindC kindOf ((p, w) :: P.zip vs) m p = _
    unfold bindC
    rw [bindC_out fun v hv => (List.nodup_cons.mp nd).1 (List.of_mem_zip hv).1, if_neg hk]
    simp
  | p :: P, w :: vs, i + 1, m, nd, h1, h2, hk => by
    show bindC kindOf ((p, w) :: P.zip vs) m x = _
    unfold bindC
    exact bindC_get (i := i) (List.nodup_cons.mp nd).2 (by simpa using h1) (by simpa using h2) hk

/-- the names' values at the entry -/
def start (N : List Str) (vs : List V) : St := vs.map some ++ List.replicate (N.length - vs.length) none

/-- the context of a def's body, at its entry; an exception leaves the frame, then lies as CX says -/
def cxOf (CX : CXT) (P : Program) (w : World) (K : PySem.W.Frag) (mg : Str → Option Value) (base : Heap) (N : List Str) (qual : Str) (scope : Scope) (f : Addr) (cd : Value) (A : Around) (outer : List Env) (s : Shared) (H : Hp) (E : XK) : Cx where
  prog := P
  w := w
  K := K
  mg := mg
  base := base
  A := A.deeper (envOfC qual scope s.heap.objs.size f cd)
  N := N
  s₀ := s
  H₀ := H
  env := envOfC qual scope s.heap.objs.size f cd
  outer := outer
  stack := envOfC qual scope s.heap.objs.size f cd :: outer
  ex := []
  calm := true
  fn := fun _ => true
  pn := []
  xe := fun e s' => wpAny (model P w) (A.deeper (envOfC qual scope s.heap.objs.size f cd)) (leaving (envOfC qual scope s.heap.objs.size f cd) e) (fun _ s'' => CX outer H s E e s'') (fun e' s'' => CX outer H s E e' s'') s'

theorem cell_has {sc : Scope} {n : Nat} {x : Str} (h : sc.names.lookup x = some .cell) : ∃ c, (cellsFrom n sc.names []).lookup x = some c := by
  have q := PySem.W.cellsFrom_some sc.names n [] (.inl h)
  exact Option.isSome_iff_exists.mp q

theorem inv_start {CX : CXT} {P : Program} {w : World} {K : PySem.W.Frag} {mg : Str → Option Value} {base : Heap} {N ps : List Str} {qual : Str} {scope : Scope} {f : Addr} {cd : Value} {A : Around} {outer : List Env} {s s1 : Shared} {H : Hp} {E : XK} {us : List Value} {vs : List V}
    (S : FnScope N ps scope) (hd : A.handled = none) (e0 : Env0 P w K mg base A outer s H) (hl : vs.length = ps.length) (r : Vals vs us)
    (x : InCallC s s.heap.objs.size (bindL (envOfC qual scope s.heap.objs.size f cd).kindOf (ps.zip us) fun _ => none) (cellsFrom (s.heap.objs.size + 1) scope.names []) (bindC (envOfC qual scope s.heap.objs.size f cd).kindOf (ps.zip us) fun _ => none) s1) :
    Inv (cxOf CX P w K mg base N qual scope f cd A outer s H E) [] (start N vs) H s1 := by
  have hpl : ps.length ≤ N.length := by have := congrArg List.length S.pre; rw [List.length_take] at this; omega
  obtain ⟨h1, tk, rfl, hk⟩ := x.done
  have noA : ∀ b : Addr, b ∉ (cxOf CX P w K mg base N qual scope f cd A outer s H E).ex := fun b z => absurd (show b ∈ ([] : List Addr) from z) (by simp)
  refine ⟨⟨e0.mod, S.kind, rfl, rfl, Nat.le_refl _, fun y z c h1 h2 => ?_, fun y hy => ?_, fun y c _ h => ?_, fun _ => hd, Around.frames_deeper e0.frames, .inr ⟨rfl, rfl⟩, fun b z => absurd z (noA b), e0.bs, e0.bsz, fun b _ _ => noA b, fun b z => absurd z (noA b), e0.funs, e0.frf⟩,
    rfl, e0.bare, Un.kept hk, ⟨_, x.toInCall.ns, fun i y v h1 h2 h3 => ?_⟩, fun y c h => ⟨_, x.cell y c h⟩, e0.hok.fresh (Nat.le_refl _), fun y c h => ?_, fun p hp => absurd (show p ∈ ([] : List (Addr × Obj)) from hp) (by simp), e0.hok.kept hk, ?_⟩
  · exact name_of_addr x.apart (PySem.mem_of_lookup h1) (PySem.mem_of_lookup h2)
  · have hy : scope.names.lookup y = some .cell ∨ scope.names.lookup y = some .free := hy
    rcases hy with hy | hy
    · exact cell_has hy
    · exact absurd rfl (S.nofree _ (PySem.mem_of_lookup hy))
  · exact Nat.le_of_lt (x.above y c (PySem.mem_of_lookup h))
  · have hi : i < vs.length := by
      unfold start at h2
      by_cases hi : i < vs.length
      · exact hi
      · rw [List.getElem?_append_right (by simpa using hi)] at h2
        rw [List.getElem?_replicate] at h2
        split at h2 <;> cases h2
    have ha : vs[i]? = some v := by
      unfold start at h2
      rw [List.getElem?_append_left (by simpa using hi), List.getElem?_map] at h2
      cases e : vs[i]? with
      | none => rw [e] at h2; cases h2
      | some a => rw [e] at h2; cases h2; rfl
    obtain ⟨u, hu, rv⟩ := r.get ha
    have hp : ps[i]? = some y := by
      rw [← S.pre, List.getElem?_take_of_lt (by omega)]; exact h1
    have ndP : ps.Nodup := by rw [← S.pre]; exact S.nd.sublist (List.take_sublist _ _)
    refine ⟨u, rv, ?_⟩
    rcases S.par y (List.mem_of_getElem? hp) with k | k
    · exact .inl ⟨k, bindL_get ndP hp hu k⟩
    · obtain ⟨c, e⟩ := cell_has (n := s.heap.objs.size + 1) k
      refine .inr ⟨.inl k, c, e, ?_⟩
      have q := x.cell y c e
      rw [bindC_get ndP hp hu (by show scope.names.lookup y ≠ _; rw [k]; decide)] at q
      exact q
  · exact e0.hok.fresh (Nat.le_of_lt (x.above y c (PySem.mem_of_lookup h)))
  · unfold start
    show _ = N.length
    rw [List.length_append, List.length_map, List.length_replicate]
    omega

/-- THE RULE: a def (or a method) of the text, by its body. The body's reading t is chosen for each entry; it is run at the parameters' values -/
theorem fn_of {CX : CXT} {P : Program} {w : World} {K : PySem.W.Frag} {mg : Str → Option Value} {base : Heap} {k : Nat} {f : Addr} {name qual : Str} {params : Arguments} {body : List Stmt} {scope : Scope} {dV kV doc pm cdv ct oc : Value} {an od : Option Addr}
    {osl : Array (Option Value)} {N ps : List Str} {sp : Sp} (lk : K.lookup f = some ⟨oc, od, .func (PySem.W.fnOf name qual params body scope dV kV doc pm an cdv ct), osl⟩) (hcd : PySem.W.codeIn K cdv qual = true) (S : FnScope N ps scope)
    (len : ∀ vs H Q E, sp vs H Q E → vs.length = ps.length)
    (hbody : ∀ (A : Around) (outer : List Env) (s : Shared) (H : Hp) (vs : List V) (Q : VK) (E : XK), Room k (A.deeper (envOfC qual scope s.heap.objs.size f cdv)) → sp vs H Q E →
      ∃ t, PSs (cxOf CX P w K mg base N qual scope f cdv A outer s H E) body t ∧ t { nx := fun _ H' => Q .non H', rt := Q } (start N vs) H) :
    FnOk P w K mg base CX (k + 1) f (PySem.W.fnOf name qual params body scope dV kV doc pm an cdv ct) ps sp := by
  refine ⟨len, fun A outer s H args us vs Q E hr e0 hb r hsp => ?_⟩
  have hl := len _ _ _ _ hsp
  have KX : K.In s.heap := e0.mod.kin.keeps fun b o e => (e0.bs b o e).1
  have lim : s.heap.NoLimit := e0.mod.nolimit.keeps fun b o e => (e0.bs b o e).1
  have hkind : ∀ y ∈ ps.zip us, scope.names.lookup y.1 = some .local ∨ (scope.names.lookup y.1 = some .cell ∧ ((cellsFrom (s.heap.objs.size + 1) scope.names []).lookup y.1).isSome = true) := fun ⟨n, v⟩ hy => by
    rcases S.par n (List.of_mem_zip hy).1 with q | q
    · exact .inl q
    · exact .inr ⟨q, PySem.W.cellsFrom_some _ _ _ (.inl q)⟩
  refine codeAny_call_function hr.depth (KX _ _ lk) rfl S.co S.gen rfl (PySem.W.codeRec_of KX hcd) (hb _ _ _ _ ?_)
  refine wpAny_newFunctionEnv_cells S.kind hkind fun env he s1 x => ?_
  subst he
  refine ⟨lim.keeps x.toInCall.keep, codeAny_func ?_⟩
  obtain ⟨t, ht, hq⟩ := hbody A outer s H vs Q E (hr.deeper _) hsp
  have I : Inv (cxOf CX P w K mg base N qual scope f cdv A outer s H E) [] (start N vs) H s1 := inv_start S hr.hd e0 hl r x
  refine wpAny_mono (ht [] s1 (start N vs) H _ I hq) (fun fl s' hs => ?_) fun e s' hs => hs
  have fin : ∀ {σ' : St} {H' : Hp} {v : V} {u : Value}, Inv (cxOf CX P w K mg base N qual scope f cdv A outer s H E) [] σ' H' s' → RelV v u → Q v H' → CE outer P w H s Q u s' :=
    fun {σ' H' v u} J rv q => ⟨v, H', J.os, J.bare, J.base, J.hok, rv, q⟩
  cases fl with
  | ret u =>
    obtain ⟨v, σ', H', J, rv, q⟩ := hs
    exact fin J rv q
  | next =>
    obtain ⟨σ', H', J, q⟩ := hs
    exact fin (v := V.non) (u := Value.none) J rfl q
  | brk =>
    obtain ⟨_, _, _, q⟩ := hs
    exact False.elim q
  | cont =>
    obtain ⟨_, _, _, q⟩ := hs
    exact False.elim q
end L2

namespace L2
open PySem PySem.Spec PyProof.Rows
section
variable {X : Cx} {x : Str} {p pos : Pos} {e : Expr} {es : List Expr} {t : TA} {id T : String} {r : List V → Hp → VK → Prop}

def tCB (r : List V → Hp → VK → Prop) (t : TA) : TE := fun σ H Q => t σ H fun vs H1 => r vs H1 Q
/-- f(e, ..), f a built-in function -/
theorem pe_callB (hc : CallR X (.builtin id) r) (hg : Gl X x) (hm : X.mg x = none) (hv : bootBuiltins x = some (.builtin id)) (ha : PA X (e :: es) t) (hn : x ≠ "__name__" := by decide) (hdb : (x == ("__debug__" : Str)) = false := by decide)
    (he : starEach (e :: es) X.env = (false, eval e X.env) :: starEach es X.env := by rfl) (hpl : (backTo pos (starEach es X.env)).any (·.1) = false := by rfl) : PE X (.Call (.Name x p) (e :: es) [] pos) (tCB r t) := by
  intro pins s σ H Q I h
  refine wpAny_Call_Name_kw (ld_blt I hg hm hv ?_ hn hdb)
  exact PyProof.Rows.callWith_builtin1 (thn (ha pos pins s σ H _ I h) fun us s1 ⟨vs, H1, I1, r1, q1⟩ => hc pins s1 σ H1 vs us Q I1 r1 q1) he hpl
/-- T(e, ..), T a built-in type -/
theorem pe_callTy (hc : CallR X (.type T) r) (hg : Gl X x) (hm : X.mg x = none) (hv : bootBuiltins x = some (.type T)) (ha : PA X (e :: es) t) (hn : x ≠ "__name__" := by decide) (hdb : (x == ("__debug__" : Str)) = false := by decide)
    (he : starEach (e :: es) X.env = (false, eval e X.env) :: starEach es X.env := by rfl) (hpl : (backTo pos (starEach es X.env)).any (·.1) = false := by rfl) : PE X (.Call (.Name x p) (e :: es) [] pos) (tCB r t) := by
  intro pins s σ H Q I h
  refine wpAny_Call_Name_kw (ld_blt I hg hm hv ?_ hn hdb)
  exact PyProof.Rows.callWith_type1 (thn (ha pos pins s σ H _ I h) fun us s1 ⟨vs, H1, I1, r1, q1⟩ => hc pins s1 σ H1 vs us Q I1 r1 q1) he hpl
/-- T() -/
theorem pe_callTy0 (hc : CallR X (.type T) r) (hg : Gl X x) (hm : X.mg x = none) (hv : bootBuiltins x = some (.type T)) (hn : x ≠ "__name__" := by decide) (hdb : (x == ("__debug__" : Str)) = false := by decide) :
    PE X (.Call (.Name x p) [] [] pos) (tCB r tNil) := by
  intro pins s σ H Q I h
  refine wpAny_Call_Name_kw (ld_blt I hg hm hv ?_ hn hdb)
  exact PyProof.Rows.callWith_type0 (hc pins s σ H [] [] Q I .nil h)
end
end L2

namespace HT
open PySem PyProof.Rows

/-- t < u of tuples of ints -/
def lexLt : List Int → List Int → Bool
  | [], [] => false
  | [], _ :: _ => true
  | _ :: _, [] => false
  | x :: xs, y :: ys => if x = y then lexLt xs ys else decide (x < y)
theorem lexLt_cons (x y : Int) (xs ys : List Int) : lexLt (x :: xs) (y :: ys) = if x = y then lexLt xs ys else decide (x < y) := rfl
theorem lexLt_nil_nil : lexLt [] [] = false := rfl
theorem lexLt_nil_cons (y : Int) (ys : List Int) : lexLt [] (y :: ys) = true := rfl
theorem lexLt_cons_nil (x : Int) (xs : List Int) : lexLt (x :: xs) [] = false := rfl

theorem eqAt_int (A : Around) (s : Shared) (a : Int) (t : Tok) (c : Int) (u : Tok) : ∃ e, SeqAt.EqAt A s (.int a t) (.int c u) e ∧ (e = true ↔ a = c) :=
  ⟨(a == c), SeqAt.EqAt.int_int a t c u, by simp⟩
theorem rcLt_int (A : Around) (s : Shared) (a : Int) (t : Tok) (c : Int) (u : Tok) (prog : Program) (w : World) (E : Value → Shared → Prop) (Q : Value → Shared → Prop) (h : Q (.bool (decide (a < c))) s) :
    wpAny (model prog w) A (richCompare .Lt (.int a t) (.int c u)) Q E s :=
  (PyProof.Rows.lt_int h : wpAny (model prog w) A (compareOp .Lt (.int a t) (.int c u)) Q E s)

section
open PySem.SeqAt
open PySem.AutoSeq1 (wpAny_loadPart')
open PySem.MeetsSeq PySem.MeetsSeq2 PySem.MeetsSeq3

theorem tuple_lt_ints (l b : Addr) (items items2 : Array Value) (n n2 : Nat) (dd dd2 : Option Addr) (sl sl2 : Array (Option Value)) (ns ms : List Int) (hi : IntsAre items.toList ns) (hj : IntsAre items2.toList ms) :
    Meets (Builtin.«tuple.__lt__» ⟨[.ref l, .ref b], []⟩)
      (fun _ R s => s.heap.get? l = some { cls := .type "tuple", dict := dd, data := .seq items n, slots := sl } ∧ s.heap.get? b = some { cls := .type "tuple", dict := dd2, data := .seq items2 n2, slots := sl2 } ∧
        R (.ok (.ret (.bool (lexLt ns ms)))) s) :=
  .of_wp fun prog w A R s h => by
    obtain ⟨hp, g, d, tk, os⟩ := s; obtain ⟨hl, hb, h⟩ := h
    have f2 := AutoSeq1.sub_tuple_tuple
    have z1 : items.size = ns.length := by rw [← hi.length]; simp
    have z2 : items2.size = ms.length := by rw [← hj.length]; simp
    wp_walk using wpAny_loadPart' hl, wpAny_loadPart' hb, wpAny_forIn_list _ (fun rest b s' => b.1 = none ∧ s' = ⟨hp, g, d, tk, os⟩ ∧ ∃ (vs ws : List Value) (ns' ms' : List Int), rest = vs.zip ws ∧
      IntsAre vs ns' ∧ IntsAre ws ms' ∧ ns'.length + items2.size = ms'.length + items.size ∧ R (.ok (.ret (.bool (lexLt ns' ms')))) ⟨hp, g, d, tk, os⟩) _
    case turn =>
      rintro ⟨y, x⟩ rest b s' ⟨hb', rfl, vs, ws, ns', ms', hz, hvi, hwi, hlen, hR⟩
      cases hvi with
      | nil => rw [List.zip_nil_left] at hz; cases hz
      | cons a t hvi' =>
        cases hwi with
        | nil => rw [List.zip_nil_right] at hz; cases hz
        | cons c u hwi' =>
          rw [List.zip_cons_cons] at hz
          injection hz with hyx hrest
          injection hyx with hy hx
          subst hy hx
          rw [lexLt_cons] at hR
          simp only [List.length_cons] at hlen
          obtain ⟨e, he, hiff⟩ := eqAt_int A.in1 ⟨hp, g, d, tk, os⟩ a t c u
          refine wpAny_bind (he prog w _ _ ?_)
          cases e with
          | true =>
            rw [if_pos (hiff.mp rfl)] at hR
            wp_walk
            exact ⟨rfl, rfl, _, _, _, _, hrest, hvi', hwi', by omega, hR⟩
          | false =>
            rw [if_neg (fun q => absurd (hiff.mpr q) Bool.false_ne_true)] at hR
            have hri := rcLt_int A.in1 ⟨hp, g, d, tk, os⟩ a t c u prog w
            wp_walk using hri
            exact ⟨_, rfl, by simpa using hR⟩
    case fin =>
      rintro ⟨b1, b2⟩ s' ⟨hb', rfl, vs, ws, ns', ms', hz, hvi, hwi, hlen, hR⟩
      simp only at hb'
      subst hb'
      have hv : lexLt ns' ms' = decide (items.size < items2.size) := by
        cases hvi with
        | nil =>
          cases hwi with
          | nil =>
            simp only [List.length_nil] at hlen
            rw [lexLt_nil_nil]
            exact (decide_eq_false (by omega)).symm
          | cons c u hw =>
            simp only [List.length_nil, List.length_cons] at hlen
            rw [lexLt_nil_cons]
            exact (decide_eq_true (by omega)).symm
        | cons a t hv =>
          cases hwi with
          | nil =>
            simp only [List.length_nil, List.length_cons] at hlen
            rw [lexLt_cons_nil]
            exact (decide_eq_false (by omega)).symm
          | cons c u hw =>
            rw [List.zip_cons_cons] at hz
            cases hz
      rw [hv] at hR
      wp_walk
      exact ⟨_, rfl, by simpa [Builtin.Tuple.tupleCompareSizes] using hR⟩
    case h =>
      exact ⟨rfl, rfl, items.toList, items2.toList, ns, ms, rfl, hi, hj, by omega, h⟩
end

section
variable {prog : Program} {w : World} {A : Around} {E : Value → Shared → Prop} {s : Shared}

theorem lt_tupInts {l b : Addr} {items items2 : Array Value} {ns ms : List Int} {Q : Value → Shared → Prop} (hl : IsTup s.heap l items) (hb : IsTup s.heap b items2) (hi : IntsAre items.toList ns) (hj : IntsAre items2.toList ms)
    (hu : A.units < cLine) (h : Q (.bool (lexLt ns ms)) s) : wpAny (model prog w) A (compareOp .Lt (.ref l) (.ref b)) Q E s := by
  obtain ⟨⟨cls, dd, data, sl⟩, ho, hc, n, hd⟩ := id hl
  obtain ⟨⟨cls2, dd2, data2, sl2⟩, ho2, hc2, n2, hd2⟩ := id hb
  simp only at hc hd hc2 hd2
  subst hc hd hc2 hd2
  exact richCompare_meets_room (op := .Lt) ⟨_, ho, rfl⟩ ⟨_, ho2, rfl⟩ PySem.F.slot_tuple_lt PySem.F.entry_tuple_lt (PySem.F.args_tuple_lt_2 _ _) (tuple_lt_ints l b items items2 n n2 dd dd2 sl sl2 ns ms hi hj)
    ⟨ho, ho2, show Value.bool (lexLt ns ms) ≠ Value.notImplemented ∧ Q (.bool (lexLt ns ms)) s from ⟨(fun x => nomatch x), h⟩⟩ hu

/-- t + u, t not empty -/
theorem cat_tup {t b : Addr} {vs ws : List Value} {Q : Value → Shared → Prop} (ht : IsTup s.heap t vs.toArray) (hb : IsTup s.heap b ws.toArray) (hv : vs ≠ [])
    (h1 : ws = [] → Q (.ref t) s) (h2 : ws ≠ [] → Q (.ref s.heap.objs.size) { s with heap := s.heap.push { cls := .type "tuple", data := .seq (vs ++ ws).toArray } })
    (hsz : vs.length + ws.length ≤ sizeLine) : wpAny (model prog w) A (binaryOp .Add (.ref t) (.ref b)) Q E s := by
  obtain ⟨⟨cls, dd, data, sl⟩, ho, hc, n, hd⟩ := id ht
  obtain ⟨⟨cls2, dd2, data2, sl2⟩, ho2, hc2, n2, hd2⟩ := id hb
  simp only at hc hd hc2 hd2
  subst hc hd hc2 hd2
  have e : vs.toArray ++ ws.toArray = (vs ++ ws).toArray := by simp
  by_cases hw : ws = []
  · exact concat_meets ⟨_, ho, rfl⟩ ⟨_, ho2, rfl⟩ noFill_tuple_add seq_tuple_add PySem.F.slot_tuple_add PySem.F.entry_tuple_add (PySem.F.args_tuple_add_2 _ _)
      (tuple_addW1 t b vs.toArray ws.toArray n n2 dd dd2 sl sl2 (by simpa using hv) (by simp [hw])) ⟨ho, ho2, h1 hw⟩
  · refine concat_meets ⟨_, ho, rfl⟩ ⟨_, ho2, rfl⟩ noFill_tuple_add seq_tuple_add PySem.F.slot_tuple_add PySem.F.entry_tuple_add (PySem.F.args_tuple_add_2 _ _)
      (tuple_addW2 t b vs.toArray ws.toArray n n2 dd dd2 sl sl2 (by simpa using hv) (by simpa using hw) (by rw [List.size_toArray, List.size_toArray]; exact hsz)) ⟨ho, ho2, ?_⟩
    rw [e]
    exact h2 hw

/-! ### t[a:b], not the whole -/
/-- a slice's bound as a place among n (d where it is left out) -/
def sIx (n d : Nat) : Option Int → Nat
  | none => d
  | some v => if v < 0 then (v + (n : Int)).toNat else min v.toNat n
theorem sIx_none (n d : Nat) : sIx n d none = d := rfl
theorem sIx_nat (n d k : Nat) : sIx n d (some (k : Int)) = min k n := by
  show (if (k : Int) < 0 then ((k : Int) + (n : Int)).toNat else min (k : Int).toNat n) = min k n
  rw [if_neg (by omega), Int.toNat_natCast]
theorem sIx_le (n d : Nat) (hd : d ≤ n) (o : Option Int) : sIx n d o ≤ n := by
  cases o with
  | none => exact hd
  | some v =>
    show (if v < 0 then (v + (n : Int)).toNat else min v.toNat n) ≤ n
    by_cases hv : v < 0
    · rw [if_pos hv]; omega
    · rw [if_neg hv]; exact Nat.min_le_right _ _
theorem clip_eq (v : Int) (n d : Nat) : (if v < 0 then max (v + (n : Int)) 0 else min v (n : Int)) = ((sIx n d (some v) : Nat) : Int) := by
  show (if v < 0 then max (v + (n : Int)) 0 else min v (n : Int)) = (((if v < 0 then (v + (n : Int)).toNat else min v.toNat n) : Nat) : Int)
  by_cases hv : v < 0
  · simp only [if_pos hv]; omega
  · simp only [if_neg hv]; omega
theorem adjust_gen (lo hi : Option Int) (n : Nat) : Builtin.Slice.sliceAdjust lo hi 1 (n : Int) = (((sIx n 0 lo : Nat) : Int), ((sIx n n hi : Nat) : Int)) := by
  have h1 : ¬ ((1 : Int) < 0) := by omega
  unfold Builtin.Slice.sliceAdjust
  simp only [h1, if_false]
  refine Prod.ext ?_ ?_
  · cases lo with
    | none => rfl
    | some v => exact clip_eq v n 0
  · cases hi with
    | none => rfl
    | some v => exact clip_eq v n n
theorem places_gen (i j : Nat) : Builtin.Slice.slicePlaces (i : Int) (j : Int) 1 = j - i := by
  unfold Builtin.Slice.slicePlaces
  have h1 : (1 : Int) > 0 := by omega
  simp only [h1, if_true, Int.ediv_one]
  split <;> omega
theorem slicePart_ {v : Value} {o : Option Int} {Q : Option Int → Shared → Prop} (p : IsPart v o) (h : Q o s) : wpAny (model prog w) A (Builtin.Slice.slicePartIndex v) Q E s := by
  cases p with
  | none => exact slicePart_none h
  | int i t => exact slicePart_int h
theorem sliceApplied_gen {sl : Addr} {vl vu : Value} {lo hi : Option Int} {n : Nat} {Q : Int × Int × Nat → Shared → Prop} (hs : s.heap.IsSliceOf sl vl vu .none) (pl : IsPart vl lo) (pu : IsPart vu hi)
    (h : Q (((sIx n 0 lo : Nat) : Int), 1, sIx n n hi - sIx n 0 lo) s) : wpAny (model prog w) A (Builtin.Slice.sliceApplied (.ref sl) (pure (n : Int))) Q E s := by
  obtain ⟨os, hos, hcs, hds⟩ := id hs
  unfold Builtin.Slice.sliceApplied Builtin.Slice.sliceFields
  refine wpAny_bind (wpAny_bind (wpAny_field hos hds (x := vl) rfl (wpAny_bind (wpAny_field hos hds (x := vu) rfl (wpAny_bind (wpAny_field hos hds (x := .none) rfl (wpAny_pure ?_)))))))
  refine wpAny_bind (slicePart_none ?_)
  show wpAny _ _ (if ((1 : Int) == 0) = true then _ else _) _ _ s
  rw [if_neg (by decide)]
  refine wpAny_bind (slicePart_ pl (wpAny_bind (slicePart_ pu (wpAny_bind (wpAny_pure ?_)))))
  show wpAny _ _ (match Builtin.Slice.sliceAdjust lo hi 1 (n : Int) with | (lo, hi) => pure (lo, (1 : Int), Builtin.Slice.slicePlaces lo hi 1)) _ _ s
  rw [adjust_gen lo hi n]
  show wpAny _ _ (pure (((sIx n 0 lo : Nat) : Int), (1 : Int), Builtin.Slice.slicePlaces ((sIx n 0 lo : Nat) : Int) ((sIx n n hi : Nat) : Int) 1)) _ _ s
  rw [places_gen]
  exact wpAny_pure h
theorem pick_gen (xs : Array Value) (i k : Nat) : ((List.range k).filterMap fun (m : Nat) => xs[((i : Int) + (m : Int) * 1).toNat]?).toArray = ((xs.toList.drop i).take k).toArray := by
  have e : (fun (m : Nat) => xs[((i : Int) + (m : Int) * 1).toNat]?) = fun m => xs[i + m]? := by
    funext m
    have : ((i : Int) + (m : Int) * 1).toNat = i + m := by omega
    rw [this]
  rw [e]
  have := pick_run xs i k
  rw [List.filterMap_map] at this
  have e2 : ((fun x => xs[x]?) ∘ fun x => i + x) = fun m => xs[i + m]? := rfl
  rw [e2] at this
  rw [this]

theorem getItem_tuple_cut {t sl : Addr} {items : Array Value} {vl vu : Value} {lo hi : Option Int} {Q : Value → Shared → Prop} (ht : IsTup s.heap t items) (hs : s.heap.IsSliceOf sl vl vu .none) (pl : IsPart vl lo) (pu : IsPart vu hi)
    (hw : ¬ (sIx items.size 0 lo = 0 ∧ sIx items.size items.size hi = items.size))
    (h : Q (.ref s.heap.objs.size) { s with heap := s.heap.push { cls := .type "tuple", data := .seq ((items.toList.drop (sIx items.size 0 lo)).take (sIx items.size items.size hi - sIx items.size 0 lo)).toArray } })
    (hsz : items.size ≤ sizeLine) : wpAny (model prog w) A (getItem (.ref t) (.ref sl)) Q E s := by
  have htake : sizeOk (.seq ((items.toList.drop (sIx items.size 0 lo)).take (sIx items.size items.size hi - sIx items.size 0 lo)).toArray) := by
    show ((items.toList.drop (sIx items.size 0 lo)).take (sIx items.size items.size hi - sIx items.size 0 lo)).toArray.size ≤ sizeLine
    rw [List.size_toArray, List.length_take, List.length_drop, Array.length_toList]
    omega
  have hj : sIx items.size items.size hi ≤ items.size := sIx_le _ _ (Nat.le_refl _) hi
  obtain ⟨os, hos, hcs, hds⟩ := id hs
  have hTs : s.TypeIs (.ref sl) "slice" := ⟨os, hos, hcs⟩
  unfold getItem
  try with_reducible refine wpAny_holding ?_
  first | refine wpAny_bind (wpAny_pure ?_) | skip
  refine wpAny_bind (wpAny_sequenceKey ht.typeIs (by decide) ?_)
  refine wpAny_bind (wpAny_callSpecial?_slot (name := Str.ofString "__getitem__") ht.typeIs PyProof.Rows.slot_tuple_getitem
    (wpAny_call_entry PyProof.Rows.slot_tuple_getitem ht.typeIs entry_tuple_getitem ?_ (args_tuple_getitem _ _)))
  show wpAny _ _ (Builtin.Tuple.tupleItemsOf (.ref t) >>= _) _ _ s
  refine wpAny_bind (tupleItemsOf_ ht ?_)
  refine wpAny_bind (wpAny_typeOf hTs ?_)
  rw [if_pos (by decide)]
  refine wpAny_bind (sliceApplied_gen hs pl pu ?_)
  have hno : ¬ ((((sIx items.size 0 lo : Nat) : Int) == 0 && (1 : Int) == 1 && (sIx items.size items.size hi - sIx items.size 0 lo) == items.size) = true) := by
    intro q
    rw [Bool.and_eq_true, Bool.and_eq_true] at q
    have q1 : ((sIx items.size 0 lo : Nat) : Int) = 0 := eq_of_beq q.1.1
    have q2 : sIx items.size items.size hi - sIx items.size 0 lo = items.size := eq_of_beq q.2
    exact hw ⟨by omega, by omega⟩
  show wpAny _ _ (if (((sIx items.size 0 lo : Nat) : Int) == 0 && (1 : Int) == 1 && (sIx items.size items.size hi - sIx items.size 0 lo) == items.size) = true then _ else _) _ _ s
  rw [if_neg hno, pick_gen]
  first
    | exact wpAny_bind (m := Builtin.Tuple.tupleExact _) (wpAny_newObj_type (wpAny_pure ⟨_, rfl, wpAny_pure h⟩) htake)
    | exact wpAny_bind (m := Builtin.Tuple.tupleExact _) (wpAny_newObj_type (wpAny_bind (wpAny_pure (wpAny_pure ⟨_, rfl, wpAny_pure h⟩))) htake)
    | exact wpAny_bind (wpAny_bind (m := Builtin.Tuple.tupleExact _) (wpAny_newObj_type (wpAny_pure (wpAny_pure ⟨_, rfl, wpAny_pure h⟩)) htake))
    | exact wpAny_bind (wpAny_bind (m := Builtin.Tuple.tupleExact _) (wpAny_newObj_type (wpAny_pure ⟨_, rfl, wpAny_pure h⟩) htake))
end
end HT

namespace L2
open PySem PySem.Spec PyProof.Rows

/-! ### the parts of a slice -/
abbrev TO := St → Hp → (Option Int → Hp → Prop) → Prop
/-- a slice's part (left out, or an int) -/
def PO (X : Cx) (e : Option Expr) (t : TO) : Prop :=
  ∀ (pins : List (Addr × Obj)) (s : Shared) (σ : St) (H : Hp) (Q : Option Int → Hp → Prop), Inv X pins σ H s → t σ H Q →
    wpAny (model X.prog X.w) X.A (evalPart e X.env) (fun u s' => ∃ o H', Inv X pins σ H' s' ∧ IsPart u o ∧ Q o H') X.xe s
def tNoPart : TO := fun _ H Q => Q none H
def tPart (t : TE) : TO := fun σ H Q => t σ H fun x H1 => ∃ i, x = .int i ∧ Q (some i) H1

theorem intsAre_of {ns : List Int} : ∀ {us : List Value}, Vals (ns.map V.int) us → IntsAre us ns := by
  induction ns with
  | nil => intro us r; rw [List.map_nil] at r; cases r; exact .nil
  | cons n ns ih =>
    intro us r
    rw [List.map_cons] at r
    cases r with
    | cons r1 r2 =>
      obtain ⟨t, e⟩ := r1
      subst e
      exact .cons n t (ih r2)

section
variable {X : Cx} {e : Expr} {te : TE} {lo hi : Option Expr} {tl th : TO} {pos p2 : Pos}

theorem po_none : PO X none tNoPart := by
  intro pins s σ H Q I h
  rw [evalPart_none]
  exact wpAny_pure ⟨none, H, I, .none, h⟩
theorem po_some (h : PE X e te) : PO X (some e) (tPart te) := by
  intro pins s σ H Q I hw
  rw [evalPart_some]
  refine thn (h pins s σ H _ I hw) fun u s1 ⟨x, H1, I1, r1, q1⟩ => ?_
  obtain ⟨i, rfl, q⟩ := q1
  obtain ⟨t, rfl⟩ := r1
  exact ⟨some i, H1, I1, .int i t, q⟩

/-- what a slice of a value is, by values: the slice object stands at sl -/
def SlR (X : Cx) (r : V → Option Int → Option Int → Hp → VK → Prop) : Prop :=
  ∀ (pins : List (Addr × Obj)) (s : Shared) (σ : St) (H : Hp) (x : V) (v vl vu : Value) (lo hi : Option Int) (sl : Addr) (Q : VK), Inv X pins σ H s → RelV x v → s.heap.IsSliceOf sl vl vu .none → IsPart vl lo → IsPart vu hi → r x lo hi H Q →
    ∃ T id, typeLookup (.type T) "__getitem__" = pure (some (.builtin id)) ∧ s.TypeIs v T ∧ wpAny (model X.prog X.w) X.A (getItem v (.ref sl)) (EP X pins σ Q) X.xe s
theorem SlR.or {r r' : V → Option Int → Option Int → Hp → VK → Prop} (h : SlR X r) (h' : SlR X r') : SlR X (fun x lo hi H Q => r x lo hi H Q ∨ r' x lo hi H Q) := by
  intro pins s σ H x v vl vu lo hi sl Q I rx hs pl pu q
  rcases q with q | q
  · exact h pins s σ H x v vl vu lo hi sl Q I rx hs pl pu q
  · exact h' pins s σ H x v vl vu lo hi sl Q I rx hs pl pu q
def tSl (r : V → Option Int → Option Int → Hp → VK → Prop) (te : TE) (tl th : TO) : TE := fun σ H Q => te σ H fun x H1 => tl σ H1 fun l H2 => th σ H2 fun u H3 => r x l u H3 Q
/-- a[lo:hi], any a -/
theorem pe_slice {r : V → Option Int → Option Int → Hp → VK → Prop} (hr : SlR X r) (he : PE X e te) (hl : PO X lo tl) (hu : PO X hi th) : PE X (.Subscript e (.Slice lo hi none p2) pos) (tSl r te tl th) := by
  intro pins s σ H Q I h
  refine Subscript_ (thn (he pins s σ H _ I h) fun v s1 ⟨x, H1, I1, r1, q1⟩ => ?_)
  refine wpAny_Slice (thn (hl pins s1 σ H1 _ I1 q1) fun vl s2 ⟨l, H2, I2, pl, q2⟩ => thn (hu pins s2 σ H2 _ I2 q2) fun vu s3 ⟨u, H3, I3, pu, q3⟩ => ?_)
  rw [evalPart_none]
  refine wpAny_pure ?_
  have I4 : Inv X pins σ H3 { s3 with heap := s3.heap.push { cls := .type "slice", data := .fields #[vl, vu, .none] } } := I3.kept (t' := s3.toks) fun b ob q => Heap.get?_push_of_some _ q
  obtain ⟨T, id, hT, ht, hg⟩ := hr pins { s3 with heap := s3.heap.push { cls := .type "slice", data := .fields #[vl, vu, .none] } } σ H3 x v vl vu l u s3.heap.objs.size Q I4 r1 (Heap.IsSliceOf.new ..) pl pu q3
  show wpAny (model X.prog X.w) X.A (subscriptTail e (.Slice lo hi none p2) v (.ref s3.heap.objs.size)) (EP X pins σ Q) X.xe { s3 with heap := s3.heap.push { cls := .type "slice", data := .fields #[vl, vu, .none] } }
  exact tail_any (ops := [.ref s3.heap.objs.size, v]) ht hT hg (by with_unfolding_all rfl)

/-- the items of xs[lo:hi] -/
def cutV (xs : List V) (lo hi : Option Int) : List V := (xs.drop (HT.sIx xs.length 0 lo)).take (HT.sIx xs.length xs.length hi - HT.sIx xs.length 0 lo)
theorem cutV_length (xs : List V) (lo hi : Option Int) : (cutV xs lo hi).length ≤ xs.length := by
  unfold cutV
  rw [List.length_take, List.length_drop]
  omega
/-- t[lo:hi], not the whole of it (the whole would be t itself) -/
def rSlT (K : PySem.W.Frag) : V → Option Int → Option Int → Hp → VK → Prop := fun x lo hi H Q => ∃ a xs, x = .ref a ∧ SqT K H a xs ∧
  ¬ (HT.sIx xs.length 0 lo = 0 ∧ HT.sIx xs.length xs.length hi = xs.length) ∧ ∀ p, H p = none → Q (.ref p) (upd H p (.tup (cutV xs lo hi)))
theorem sl_tup : SlR X (rSlT X.K) := by
  intro pins s σ H x v vl vu lo hi sl Q I rx hs pl pu h
  obtain ⟨a, xs, rfl, hx, hw, q⟩ := h
  cases rx
  obtain ⟨its, r, ht, hz⟩ := I.tuple hx
  have hlen : its.toArray.size = xs.length := by rw [List.size_toArray]; exact r.length.symm
  refine ⟨"tuple", _, PyProof.Rows.slot_tuple_getitem.lookup, ht.typeIs, ?_⟩
  refine HT.getItem_tuple_cut ht hs pl pu (by rw [hlen]; exact hw) ?_ (by rw [hlen]; exact hz)
  rw [hlen]
  refine ⟨.ref s.heap.objs.size, _, I.laid (t' := s.toks) (o := .tup (cutV xs lo hi)) (fun b ob q => Heap.get?_push_of_some _ q) (Nat.le_refl _) ?_, rfl, q _ (I.hok.fresh (Nat.le_refl _))⟩
  exact ⟨Nat.le_trans (cutV_length xs lo hi) hz, _, (r.drop (HT.sIx xs.length 0 lo)).take (HT.sIx xs.length xs.length hi - HT.sIx xs.length 0 lo), IsTup.new _ _⟩

/-! ### t < u, t + u -/
def rLtT (K : PySem.W.Frag) : R2 := fun x y H Q => ∃ a b ns ms, x = .ref a ∧ y = .ref b ∧ SqT K H a (ns.map V.int) ∧ SqT K H b (ms.map V.int) ∧ Q (.bl (HT.lexLt ns ms)) H
theorem op_ltT (hu : X.A.units < cLine) : OpR X (compareOp .Lt) (rLtT X.K) := by
  intro pins s σ H x y v u Q I rx ry h
  obtain ⟨a, b, ns, ms, rfl, rfl, ha, hb, q⟩ := h
  cases rx
  cases ry
  obtain ⟨its, r1, p1, _⟩ := I.tuple ha
  obtain ⟨its2, r2, p2, _⟩ := I.tuple hb
  have i1 : IntsAre its.toArray.toList ns := intsAre_of r1
  have i2 : IntsAre its2.toArray.toList ms := intsAre_of r2
  exact HT.lt_tupInts p1 p2 i1 i2 hu ⟨.bl (HT.lexLt ns ms), H, I, rfl, q⟩
/-- t + u, t not empty: u empty gives t itself -/
def rCatT (K : PySem.W.Frag) : R2 := fun x y H Q => ∃ a b xs ys, x = .ref a ∧ y = .ref b ∧ SqT K H a xs ∧ SqT K H b ys ∧ xs ≠ [] ∧ xs.length + ys.length ≤ sizeLine ∧
  (ys = [] → Q (.ref a) H) ∧ (ys ≠ [] → ∀ p, H p = none → Q (.ref p) (upd H p (.tup (xs ++ ys))))
theorem Vals.nil_iff {xs : List V} {us : List Value} (r : Vals xs us) : us = [] ↔ xs = [] := by
  cases r with
  | nil => simp
  | cons _ _ => simp
theorem op_catT : OpR X (binaryOp .Add) (rCatT X.K) := by
  intro pins s σ H x y v u Q I rx ry h
  obtain ⟨a, b, xs, ys, rfl, rfl, ha, hb, hx, hz, q1, q2⟩ := h
  cases rx
  cases ry
  obtain ⟨its, r1, p1, _⟩ := I.tuple ha
  obtain ⟨its2, r2, p2, _⟩ := I.tuple hb
  refine HT.cat_tup p1 p2 (fun z => hx (r1.nil_iff.mp z)) (fun z => ⟨.ref a, H, I, rfl, q1 (r2.nil_iff.mp z)⟩) (fun z => ?_) (by rw [← r1.length, ← r2.length]; exact hz)
  refine ⟨.ref s.heap.objs.size, _, I.laid (t' := s.toks) (o := .tup (xs ++ ys)) (fun b ob q => Heap.get?_push_of_some _ q) (Nat.le_refl _) ?_, rfl, q2 (fun w => z (r2.nil_iff.mpr w)) _ (I.hok.fresh (Nat.le_refl _))⟩
  exact ⟨by rw [List.length_append]; exact hz, _, r1.append r2, IsTup.new _ _⟩
/-- tuple(t) -/
theorem call_tupleT : CallR X (.type "tuple") (fun xs H Q => ∃ a ys, xs = [.ref a] ∧ SqT X.K H a ys ∧ Q (.ref a) H) := by
  intro pins s σ H xs us Q I r h
  obtain ⟨a, ys, rfl, ha, q⟩ := h
  obtain ⟨u, rfl, ru⟩ := vals1 r
  cases ru
  obtain ⟨its, _, p1, _⟩ := I.tuple ha
  exact call_tuple_same (items := its.toArray) p1 ⟨.ref a, H, I, rfl, q⟩
end
end L2

namespace L2
open PySem PySem.Spec PyProof.Rows

/-! ### places -/
/-- the place that an index of any sign means -/
def ixN (n : Nat) (i : Int) : Option Nat := if 0 ≤ i then (if i < n then some i.toNat else none) else if -(n : Int) ≤ i then some (i + n).toNat else none
def atI {α : Type} (xs : List α) (i : Int) : Option α := (ixN xs.length i).bind fun j => xs[j]?
theorem ixN_seq {n : Nat} {i : Int} {j : Nat} (h : ixN n i = some j) : seqIndex? i n = some j ∧ j < n ∧ -(n : Int) ≤ i ∧ i < n := by
  unfold ixN at h
  by_cases h0 : 0 ≤ i
  · rw [if_pos h0] at h
    by_cases h1 : i < n
    · rw [if_pos h1] at h
      have e : i.toNat = j := Option.some.inj h
      exact ⟨by rw [seqIndex_of h0 h1, e], by omega, by omega, h1⟩
    · rw [if_neg h1] at h; cases h
  · rw [if_neg h0] at h
    by_cases h1 : -(n : Int) ≤ i
    · rw [if_pos h1] at h
      have e : (i + n).toNat = j := Option.some.inj h
      exact ⟨by rw [seqIndex_neg (by omega) h1, e], by omega, h1, by omega⟩
    · rw [if_neg h1] at h; cases h
theorem atI_get {α : Type} {xs : List α} {i : Int} {v : α} (h : atI xs i = some v) : ∃ j, seqIndex? i xs.length = some j ∧ xs[j]? = some v ∧ j < xs.length ∧ -(xs.length : Int) ≤ i ∧ i < xs.length := by
  unfold atI at h
  cases e : ixN xs.length i with
  | none => rw [e] at h; cases h
  | some j =>
    rw [e] at h
    obtain ⟨h1, h2, h3, h4⟩ := ixN_seq e
    exact ⟨j, h1, h, h2, h3, h4⟩
theorem atI_nat {α : Type} {xs : List α} {j : Nat} {v : α} (h : xs[j]? = some v) : atI xs (j : Int) = some v := by
  have hj : j < xs.length := (List.getElem?_eq_some_iff.mp h).1
  have e : ixN xs.length (j : Int) = some j := by
    unfold ixN
    rw [if_pos (by omega), if_pos (by omega)]; simp
  unfold atI; rw [e]; exact h
theorem atI_last {α : Type} (xs : List α) (v : α) : atI (xs ++ [v]) (-1) = some v := by
  have hl : (xs ++ [v]).length = xs.length + 1 := by simp
  have e : ixN (xs ++ [v]).length (-1) = some xs.length := by
    unfold ixN
    rw [hl, if_neg (by decide), if_pos (by omega)]
    congr 1
    omega
  unfold atI
  rw [e]
  show (xs ++ [v])[xs.length]? = some v
  simp

/-! ### what may be subscripted -/
/-- what stands as an index of a plain subscript -/
def PlainIx (b : Expr) : Prop := ∀ o i, subscripted b false o i = operate [o, i] (getItem o i)
/-- a subscript by values -/
def IxR (X : Cx) (r : R2) : Prop :=
  ∀ (value slice : Expr) (pins : List (Addr × Obj)) (s : Shared) (σ : St) (H : Hp) (x y : V) (v u : Value) (Q : VK), Inv X pins σ H s → RelV x v → RelV y u → r x y H Q →
    subscripted slice false v u = operate [v, u] (getItem v u) → wpAny (model X.prog X.w) X.A (subscriptTail value slice v u) (EP X pins σ Q) X.xe s
/-- a call of a builtin's method by values: the receiver, the arguments -/
def MtR (X : Cx) (id : String) (r : V → List V → Hp → VK → Prop) : Prop :=
  ∀ (pins : List (Addr × Obj)) (s : Shared) (σ : St) (H : Hp) (x : V) (xs : List V) (v : Value) (us : List Value) (Q : VK), Inv X pins σ H s → RelV x v → Vals xs us → r x xs H Q →
    wpAny (model X.prog X.w) X.A (call (.builtin id) (v :: us)) (EP X pins σ Q) X.xe s
section
variable {X : Cx} {a b : Expr} {ta tb : TE} {pos : Pos}
theorem IxR.or {r r' : R2} (h : IxR X r) (h' : IxR X r') : IxR X (fun x y H Q => r x y H Q ∨ r' x y H Q) := by
  intro value slice pins s σ H x y v u Q I rx ry q hs
  rcases q with q | q
  · exact h value slice pins s σ H x y v u Q I rx ry q hs
  · exact h' value slice pins s σ H x y v u Q I rx ry q hs
theorem MtR.or {id : String} {r r' : V → List V → Hp → VK → Prop} (h : MtR X id r) (h' : MtR X id r') : MtR X id (fun x xs H Q => r x xs H Q ∨ r' x xs H Q) := by
  intro pins s σ H x xs v us Q I rx rs q
  rcases q with q | q
  · exact h pins s σ H x xs v us Q I rx rs q
  · exact h' pins s σ H x xs v us Q I rx rs q
/-- a[b] -/
theorem pe_ix {r : R2} (hr : IxR X r) (ha : PE X a ta) (hb : PE X b tb) (hs : PlainIx b) : PE X (.Subscript a b pos) (tOp r ta tb) := by
  intro pins s σ H Q I h
  exact Subscript_ (binT ha hb I h fun v u s2 x y H2 I2 rx ry q => hr a b pins s2 σ H2 x y v u Q I2 rx ry q (hs _ _))

def rIxL (K : PySem.W.Frag) : R2 := fun x y H Q => ∃ p xs i v, x = .ref p ∧ y = .int i ∧ SqL K H p xs ∧ atI xs i = some v ∧ Q v H
def rIxT (K : PySem.W.Frag) : R2 := fun x y H Q => ∃ p xs i v, x = .ref p ∧ y = .int i ∧ SqT K H p xs ∧ atI xs i = some v ∧ Q v H
def rIxS : R2 := fun x y H Q => ∃ z i c, x = .str z ∧ y = .int i ∧ z.length ≤ sizeLine ∧ atI z.cps.toList i = some c ∧ Q (.str ⟨#[c]⟩) H
theorem ix_list : IxR X (rIxL X.K) := by
  intro value slice pins s σ H x y v u Q I rx ry h hs
  obtain ⟨p, xs, i, z, rfl, rfl, hq, he, q⟩ := h
  cases rx
  obtain ⟨t, rfl⟩ := ry
  obtain ⟨its, r, pl, hz⟩ := I.list hq
  obtain ⟨j, h1, h2, h3, h4, h5⟩ := atI_get he
  obtain ⟨w, ew, rw'⟩ := r.get h2
  have hl := r.length
  have hn := line63
  have fin : EP X pins σ Q w s := ⟨z, H, I, rw', q⟩
  by_cases h0 : 0 ≤ i
  · have hj : i.toNat = j := by
      rw [seqIndex_of h0 h5] at h1
      exact Option.some.inj h1
    exact item_listR pl.isList h0 (by omega) (by rw [hj]; simpa using ew) fin hs
  · have hj : (i + (its.toArray.size : Int)).toNat = j := by
      rw [seqIndex_neg (by omega) h4] at h1
      rw [List.size_toArray, ← hl]
      exact Option.some.inj h1
    exact subscriptTail_builtinR (x := w) pl.isList.typeIs slot_list_getitem.lookup
      (wpAny_getItem_list_neg (Q := fun r s' => r = w ∧ EP X pins σ Q r s') pl.isList (by omega) (by rw [List.size_toArray] <;> omega) (by omega) (by rw [hj]; simpa using ew) ⟨rfl, fin⟩) hs
theorem ix_tup : IxR X (rIxT X.K) := by
  intro value slice pins s σ H x y v u Q I rx ry h hs
  obtain ⟨p, xs, i, z, rfl, rfl, hq, he, q⟩ := h
  cases rx
  obtain ⟨t, rfl⟩ := ry
  obtain ⟨its, r, pl, hz⟩ := I.tuple hq
  obtain ⟨j, h1, h2, h3, h4, h5⟩ := atI_get he
  obtain ⟨w, ew, rw'⟩ := r.get h2
  have hl := r.length
  have hn := line63
  have fin : EP X pins σ Q w s := ⟨z, H, I, rw', q⟩
  exact subscriptTail_builtinR (x := w) pl.typeIs slot_tuple_getitem.lookup
    (getItem_tuple (j := j) (Q := fun r s' => r = w ∧ EP X pins σ Q r s') pl (by omega) (by omega) (by rw [List.size_toArray, ← hl]; exact h1) (by simpa using ew) ⟨rfl, fin⟩) hs
theorem ix_str : IxR X rIxS := by
  intro value slice pins s σ H x y v u Q I rx ry h hs
  obtain ⟨z, i, c, rfl, rfl, hz, he, q⟩ := h
  obtain ⟨t, rfl⟩ := rx
  obtain ⟨t', rfl⟩ := ry
  obtain ⟨j, h1, h2, h3, h4, h5⟩ := atI_get he
  have hl : z.cps.toList.length = z.length := by simp [Str.length]
  rw [hl] at h1 h4 h5
  have hn := line63
  exact tail_any (typeIs_str s z t) slot_str_getitem.lookup (getItem_str (c := c) (by
    have e1 : decide (i < -(2 ^ 63 : Int)) = false := decide_eq_false (by omega)
    have e2 : decide (i ≥ 2 ^ 63) = false := decide_eq_false (by omega)
    rw [e1, e2, Bool.or_false]) (by rw [h1]; simpa using h2) ⟨.str ⟨#[c]⟩, H, I.tok _, ⟨_, rfl⟩, q⟩) hs
/-- list, tuple or str -/
def rIx (K : PySem.W.Frag) : R2 := fun x y H Q => rIxL K x y H Q ∨ rIxT K x y H Q ∨ rIxS x y H Q
theorem ix_seq : IxR X (rIx X.K) := ix_list.or (ix_tup.or ix_str)

/-! ### xs[i] = v, any sign -/
/-- the list's object behind a store -/
theorem mapSeq_set (its : List Value) (n j : Nat) (u : Value) : Obj.mapSeq (·.setIfInBounds j u) { cls := .type "list", data := .seq its.toArray n } = { cls := .type "list", data := .seq (its.set j u).toArray n } := by
  simp [Obj.mapSeq]
theorem Inv.lst {pins : List (Addr × Obj)} {σ : St} {H : Hp} {s : Shared} {p : Addr} {xs : List V} (I : Inv X pins σ H s) (h : H p = some (.lst xs)) :
    ∃ (its : List Value) (n : Nat), Vals xs its ∧ s.heap.get? p = some { cls := .type "list", data := .seq its.toArray n } ∧ xs.length ≤ sizeLine := by
  obtain ⟨z, its, n, r, e⟩ := I.hok p _ h
  exact ⟨its, n, r, e, z⟩
/-- the list at p is written by an update of its object -/
theorem Inv.lstUpd {pins : List (Addr × Obj)} {σ : St} {H : Hp} {s : Shared} {p : Addr} {xs ys : List V} {its its' : List Value} {n n' : Nat} {f : Obj → Obj} (I : Inv X pins σ H s) (h : H p = some (.lst xs))
    (ho : s.heap.get? p = some { cls := .type "list", data := .seq its.toArray n }) (hf : f { cls := .type "list", data := .seq its.toArray n } = { cls := .type "list", data := .seq its'.toArray n' }) (r : Vals ys its') (hz : ys.length ≤ sizeLine) (t : Nat) :
    Inv X pins σ (upd H p (.lst ys)) { s with heap := s.heap.update p f, toks := t } := by
  have e : (s.heap.update p f).get? p = some { cls := .type "list", data := .seq its'.toArray n' } := by
    rw [Heap.get?_update_self f ho (by rw [hf] <;> rfl), hf]
  refine I.write (x := p) (e := p) (by rw [h]; trivial) (.inl rfl) (fun b u hb q => (Heap.get?_update_other _ _ (Ne.symm hb)).trans q) ⟨_, e⟩ ?_
  exact ⟨hz, its', n', r, e⟩
def rSetL : V → V → V → Hp → (Hp → Prop) → Prop := fun o i v H Q => ∃ p xs k j, o = .ref p ∧ i = .int k ∧ H p = some (.lst xs) ∧ ixN xs.length k = some j ∧ Q (upd H p (.lst (xs.set j v)))
theorem set_list : PSet X rSetL := by
  intro pins s σ H o i v ov iv u Q I ro ri rv h
  obtain ⟨p, xs, k, j, rfl, rfl, hp, hj, q⟩ := h
  cases ro
  obtain ⟨t, rfl⟩ := ri
  obtain ⟨its, n, r, ho, hz⟩ := I.lst hp
  obtain ⟨h1, h2, h3, h4⟩ := ixN_seq hj
  have hl := r.length
  have hn := line63
  have I' : Inv X pins σ (upd H p (.lst (xs.set j v))) { s with heap := s.heap.update p (Obj.mapSeq (·.setIfInBounds j u)) } :=
    I.lstUpd hp ho (mapSeq_set its n j u) (r.set rv j) (by rw [List.length_set]; exact hz) s.toks
  by_cases h0 : 0 ≤ k
  · have hk : k.toNat = j := by
      rw [seqIndex_of h0 h4] at h1
      exact Option.some.inj h1
    exact PySem.W.ki_setAt ho h0 (by omega) (by rw [List.size_toArray, ← hl]; exact h4) (by rw [hk]; exact ⟨_, I', q⟩)
  · have hk : (k + (its.toArray.size : Int)).toNat = j := by
      rw [seqIndex_neg (by omega) h3] at h1
      rw [List.size_toArray, ← hl]
      exact Option.some.inj h1
    exact PySem.W.ki_setBack ho (by omega) (by rw [List.size_toArray, ← hl]; exact h3) (by omega) (by rw [hk]; exact ⟨_, I', q⟩)

/-! ### slices -/
theorem slice_bounds (lo hi : Option Int) (n : Nat) : (sliceBounds lo hi none n).1 = ((HT.sIx n 0 lo : Nat) : Int) ∧ (sliceBounds lo hi none n).2.1 = ((HT.sIx n n hi : Nat) : Int) ∧ (sliceBounds lo hi none n).2.2 = 1 := by
  refine ⟨?_, ?_, rfl⟩
  · cases lo with
    | none => simp [sliceBounds, HT.sIx]
    | some i =>
      simp only [sliceBounds, HT.sIx, Option.getD_none, show (1 : Int) > 0 by decide, if_true]
      by_cases h : i < 0
      · simp only [h, if_true] <;> omega
      · simp only [h, if_false] <;> omega
  · cases hi with
    | none => simp [sliceBounds, HT.sIx]
    | some i =>
      simp only [sliceBounds, HT.sIx, Option.getD_none, show (1 : Int) > 0 by decide, if_true]
      by_cases h : i < 0
      · simp only [h, if_true] <;> omega
      · simp only [h, if_false] <;> omega
theorem slicePick_cut (its : List Value) (lo hi : Option Int) : slicePick its.toArray lo hi none = ((its.drop (HT.sIx its.length 0 lo)).take (HT.sIx its.length its.length hi - HT.sIx its.length 0 lo)).toArray := by
  obtain ⟨h1, h2, h3⟩ := slice_bounds lo hi its.toArray.size
  unfold slicePick
  rw [h1, h2, h3]
  simp only [sliceRange_one, pick_run, List.size_toArray] <;> rfl
/-- xs[lo:hi] of a list: a new list -/
def rSlL (K : PySem.W.Frag) : V → Option Int → Option Int → Hp → VK → Prop := fun x lo hi H Q => ∃ a xs, x = .ref a ∧ SqL K H a xs ∧ ∀ p, H p = none → Q (.ref p) (upd H p (.lst (cutV xs lo hi)))
theorem sl_list : SlR X (rSlL X.K) := by
  intro pins s σ H x v vl vu lo hi sl Q I rx hs pl pu h
  obtain ⟨a, xs, rfl, hx, q⟩ := h
  cases rx
  obtain ⟨its, r, ht, hz⟩ := I.list hx
  have hlen := r.length
  refine ⟨"list", _, slot_list_getitem.lookup, ht.isList.typeIs, ?_⟩
  refine wpAny_getItem_list_slice ht.isList hs pl pu .none (by simp) ?_ (by rw [List.size_toArray] <;> omega)
  rw [slicePick_cut, ← hlen]
  refine ⟨.ref s.heap.objs.size, _, I.laid (t' := s.toks) (o := .lst (cutV xs lo hi)) (fun b ob q => Heap.get?_push_of_some _ q) (Nat.le_refl _) ?_, rfl, q _ (I.hok.fresh (Nat.le_refl _))⟩
  exact ⟨Nat.le_trans (cutV_length xs lo hi) hz, _, 0, (r.drop (HT.sIx xs.length 0 lo)).take (HT.sIx xs.length xs.length hi - HT.sIx xs.length 0 lo), Heap.get?_push_size _ rfl⟩

/-! ### in, not in: flat items -/
def flatV : V → Bool
  | .non => true
  | .bl _ => true
  | .int _ => true
  | .str _ => true
  | _ => false
/-- == of flat values -/
def eqV : V → V → Bool
  | .non, .non => true
  | .bl a, .bl b => a == b
  | .bl a, .int b => (if a then 1 else 0) == b
  | .int a, .bl b => a == (if b then 1 else 0)
  | .int a, .int b => a == b
  | .str a, .str b => a == b
  | _, _ => false
theorem eqAt_V {A : Around} {s : Shared} {y x : V} {u v : Value} (ry : RelV y u) (rx : RelV x v) (fy : flatV y = true) (fx : flatV x = true) : SeqAt.EqAt A s u v (eqV y x) := by
  cases y with
  | non =>
    cases ry
    cases x with
    | non => cases rx; exact SeqAt.EqAt.same _
    | bl b => cases rx; exact SeqAt.EqAt.none_bool b
    | int b => obtain ⟨t, rfl⟩ := rx; exact SeqAt.EqAt.none_int b t
    | str b => obtain ⟨t, rfl⟩ := rx; exact SeqAt.EqAt.none_str b t
    | _ => exact absurd (show false = true from fx) Bool.false_ne_true
  | bl a =>
    cases ry
    cases x with
    | non => cases rx; exact SeqAt.EqAt.bool_none a
    | bl b => cases rx; exact SeqAt.EqAt.bool_bool a b
    | int b => obtain ⟨t, rfl⟩ := rx; exact SeqAt.EqAt.bool_int a b t
    | str b => obtain ⟨t, rfl⟩ := rx; exact SeqAt.EqAt.bool_str a b t
    | _ => exact absurd (show false = true from fx) Bool.false_ne_true
  | int a =>
    obtain ⟨t', rfl⟩ := ry
    cases x with
    | non => cases rx; exact SeqAt.EqAt.int_none a t'
    | bl b => cases rx; exact SeqAt.EqAt.int_bool a t' b
    | int b => obtain ⟨t, rfl⟩ := rx; exact SeqAt.EqAt.int_int a t' b t
    | str b => obtain ⟨t, rfl⟩ := rx; exact SeqAt.EqAt.int_str a t' b t
    | _ => exact absurd (show false = true from fx) Bool.false_ne_true
  | str a =>
    obtain ⟨t', rfl⟩ := ry
    cases x with
    | non => cases rx; exact SeqAt.EqAt.str_none a t'
    | bl b => cases rx; exact SeqAt.EqAt.str_bool a t' b
    | int b => obtain ⟨t, rfl⟩ := rx; exact SeqAt.EqAt.str_int a t' b t
    | str b => obtain ⟨t, rfl⟩ := rx; exact SeqAt.EqAt.str_str a t' b t
    | _ => exact absurd (show false = true from fx) Bool.false_ne_true
  | _ => exact absurd (show false = true from fy) Bool.false_ne_true
/-- the items' answers, read off the values (a value's own answer does not lean on its token) -/
def eqU (x : V) (u : Value) : Bool := match u with
  | .none => eqV .non x
  | .bool b => eqV (.bl b) x
  | .int i _ => eqV (.int i) x
  | .str z _ => eqV (.str z) x
  | _ => false
theorem eqU_of {x y : V} {u : Value} (r : RelV y u) (f : flatV y = true) : eqU x u = eqV y x := by
  cases y with
  | non => cases r; rfl
  | bl b => cases r; rfl
  | int i => obtain ⟨t, rfl⟩ := r; rfl
  | str z => obtain ⟨t, rfl⟩ := r; rfl
  | _ => exact absurd (show false = true from f) Bool.false_ne_true
theorem any_eqU {x : V} : ∀ {xs : List V} {us : List Value}, Vals xs us → xs.all flatV = true → us.any (eqU x) = xs.any fun y => eqV y x
  | _, _, .nil, _ => rfl
  | y :: xs, u :: us, .cons r t, f => by
    rw [List.all_cons, Bool.and_eq_true] at f
    rw [List.any_cons, List.any_cons, eqU_of r f.1, any_eqU t f.2]
theorem mem_eqAt {A : Around} {s : Shared} {x : V} {v : Value} (rx : RelV x v) (fx : flatV x = true) : ∀ {xs : List V} {us : List Value}, Vals xs us → xs.all flatV = true → ∀ u ∈ us, SeqAt.EqAt A s u v (eqU x u)
  | _, _, .nil, _ => fun u hu => by cases hu
  | y :: xs, u :: us, .cons r t, f => fun u' hu => by
    rw [List.all_cons, Bool.and_eq_true] at f
    rcases List.mem_cons.mp hu with rfl | hu
    · rw [eqU_of r f.1]; exact eqAt_V r rx f.1 fx
    · exact mem_eqAt rx fx t f.2 u' hu
def inV (x : V) (xs : List V) : Bool := xs.any fun y => eqV y x
/-- x in a list or tuple of flat items -/
def rIn (K : PySem.W.Frag) (neg : Bool) : R2 := fun x y H Q => ∃ p xs, y = .ref p ∧ (SqL K H p xs ∨ SqT K H p xs) ∧ flatV x = true ∧ xs.all flatV = true ∧ Q (.bl (if neg then !inV x xs else inV x xs)) H
theorem op_in_seq : OpR X (compareOp .In) (rIn X.K false) := by
  intro pins s σ H x y v u Q I rx ry h
  obtain ⟨p, xs, rfl, hq, fx, fs, q⟩ := h
  cases ry
  rcases hq with hq | hq
  · obtain ⟨its, r, pl, hz⟩ := I.list hq
    refine SeqAt.in_listAt (eqU x) pl.isList (fun w hw => mem_eqAt rx fx r fs w (by simpa using hw)) ⟨.bl _, H, I, rfl, ?_⟩
    rw [show its.toArray.any (eqU x) = its.any (eqU x) by simp, any_eqU r fs]
    exact q
  · obtain ⟨its, r, pl, hz⟩ := I.tuple hq
    refine SeqAt.in_tupleAt (eqU x) pl (fun w hw => mem_eqAt rx fx r fs w (by simpa using hw)) ⟨.bl _, H, I, rfl, ?_⟩
    rw [show its.toArray.any (eqU x) = its.any (eqU x) by simp, any_eqU r fs]
    exact q
theorem op_notIn_seq : OpR X (compareOp .NotIn) (rIn X.K true) := by
  intro pins s σ H x y v u Q I rx ry h
  obtain ⟨p, xs, rfl, hq, fx, fs, q⟩ := h
  cases ry
  rcases hq with hq | hq
  · obtain ⟨its, r, pl, hz⟩ := I.list hq
    refine SeqAt.notIn_listAt (eqU x) pl.isList (fun w hw => mem_eqAt rx fx r fs w (by simpa using hw)) ⟨.bl _, H, I, rfl, ?_⟩
    rw [show its.toArray.any (eqU x) = its.any (eqU x) by simp, any_eqU r fs]
    exact q
  · obtain ⟨its, r, pl, hz⟩ := I.tuple hq
    refine SeqAt.notIn_tupleAt (eqU x) pl (fun w hw => mem_eqAt rx fx r fs w (by simpa using hw)) ⟨.bl _, H, I, rfl, ?_⟩
    rw [show its.toArray.any (eqU x) = its.any (eqU x) by simp, any_eqU r fs]
    exact q
theorem op_notIn_str : OpR X (compareOp .NotIn) (fun x y H Q => ∃ i j, x = .str i ∧ y = .str j ∧ Q (.bl (!(!(Builtin.Str.occurrences j i 0 j.length 1).isEmpty))) H) := by
  intro pins s σ H x y v u Q I rx ry h
  obtain ⟨i, j, rfl, rfl, q⟩ := h
  obtain ⟨t, rfl⟩ := rx
  obtain ⟨t', rfl⟩ := ry
  exact notIn_str ⟨.bl _, H, I, rfl, q⟩

/-! ### len, list(x), tuple(x) of any list or tuple that is read -/
theorem call_len_seq : CallR X (.builtin "len") (fun xs H Q => ∃ p ys, xs = [.ref p] ∧ (SqL X.K H p ys ∨ SqT X.K H p ys) ∧ Q (.int ys.length) H) := by
  intro pins s σ H xs us Q I r h
  obtain ⟨p, ys, rfl, hq, q⟩ := h
  obtain ⟨u, rfl, rx⟩ := vals1 r
  cases rx
  have hn := line63
  rcases hq with hq | hq
  · obtain ⟨its, r', pl, hz⟩ := I.list hq
    have hlen := r'.length
    exact Calls.call_len_list pl.isList (by simp only [List.size_toArray] <;> omega) ⟨.int ys.length, H, I.tok _, ⟨s.toks + 1, by rw [List.size_toArray, hlen]⟩, q⟩
  · obtain ⟨its, r', pl, hz⟩ := I.tuple hq
    have hlen := r'.length
    exact len_tuple pl (by simp only [List.size_toArray] <;> omega) ⟨.int ys.length, H, I.tok _, ⟨s.toks + 1, by rw [List.size_toArray, hlen]⟩, q⟩
theorem call_len_str : CallR X (.builtin "len") (fun xs H Q => ∃ z, xs = [.str z] ∧ z.length ≤ sizeLine ∧ Q (.int z.length) H) := by
  intro pins s σ H xs us Q I r h
  obtain ⟨z, rfl, hz, q⟩ := h
  obtain ⟨u, rfl, t, rfl⟩ := vals1 r
  have hn := line63
  exact len_str (by omega) ⟨.int z.length, H, I.tok _, ⟨_, rfl⟩, q⟩
theorem CallR.or {f : Value} {r r' : List V → Hp → VK → Prop} (h : CallR X f r) (h' : CallR X f r') : CallR X f (fun xs H Q => r xs H Q ∨ r' xs H Q) := by
  intro pins s σ H xs us Q I rs q
  rcases q with q | q
  · exact h pins s σ H xs us Q I rs q
  · exact h' pins s σ H xs us Q I rs q
theorem call_list_of : CallR X (.type "list") (fun xs H Q => ∃ p ys, xs = [.ref p] ∧ (SqL X.K H p ys ∨ SqT X.K H p ys) ∧ ∀ l, H l = none → Q (.ref l) (upd H l (.lst ys))) := by
  intro pins s σ H xs us Q I r h
  obtain ⟨p, ys, rfl, hq, q⟩ := h
  obtain ⟨u, rfl, rx⟩ := vals1 r
  cases rx
  have fin : ∀ (its : List Value), Vals ys its → ys.length ≤ sizeLine → ∀ (h' : Heap) (c' : Nat), (∀ b o', s.heap.get? b = some o' → h'.get? b = some o') →
      h'.get? s.heap.objs.size = some { cls := .type "list", dict := none, data := .seq its.toArray c', slots := #[] } → EP X pins σ Q (.ref s.heap.objs.size) { s with heap := h' } := fun its r' hz h' c' kp e =>
    ⟨.ref s.heap.objs.size, _, I.laid (t' := s.toks) kp (Nat.le_refl _) (show ObjOk X.prog X.w _ h' _ (.lst ys) from ⟨hz, its, c', r', e⟩), rfl, q _ (I.hok.fresh (Nat.le_refl _))⟩
  rcases hq with hq | hq
  · obtain ⟨its, r', pl, hz⟩ := I.list hq
    have hlen := r'.length
    obtain ⟨o, ho, hc, n, hd⟩ := pl.isList
    exact call_list_seq p (.inl rfl) ho hc hd (fun h' c' kp e => fin its r' hz h' c' kp e) (by simp only [List.size_toArray] <;> omega)
  · obtain ⟨its, r', pl, hz⟩ := I.tuple hq
    have hlen := r'.length
    obtain ⟨o, ho, hc, n, hd⟩ := pl
    exact call_list_seq p (.inr rfl) ho hc hd (fun h' c' kp e => fin its r' hz h' c' kp e) (by simp only [List.size_toArray] <;> omega)
theorem call_tuple_of : CallR X (.type "tuple") (fun xs H Q => ∃ p ys, xs = [.ref p] ∧ ((SqL X.K H p ys ∧ ∀ l, H l = none → Q (.ref l) (upd H l (.tup ys))) ∨ (SqT X.K H p ys ∧ Q (.ref p) H))) := by
  intro pins s σ H xs us Q I r h
  obtain ⟨p, ys, rfl, h⟩ := h
  obtain ⟨u, rfl, rx⟩ := vals1 r
  cases rx
  rcases h with ⟨hq, q⟩ | ⟨hq, q⟩
  · obtain ⟨its, r', pl, hz⟩ := I.list hq
    have hlen := r'.length
    refine call_tuple_list pl.isList (fun h' kp => ?_) (by simp only [List.size_toArray] <;> omega)
    have I1 : Inv X pins σ H { s with heap := h' } := I.kept (t' := s.toks) kp
    have I2 : Inv X pins σ (upd H h'.objs.size (.tup ys)) { s with heap := h'.push { cls := .type "tuple", data := .seq its.toArray } } :=
      I1.laid (t' := s.toks) (fun b o e => Heap.get?_push_of_some _ e) (Nat.le_refl _) (show ObjOk X.prog X.w _ _ _ (.tup ys) from ⟨hz, its, r', IsTup.new _ _⟩)
    exact ⟨.ref h'.objs.size, _, I2, rfl, q _ (I1.hok.fresh (Nat.le_refl _))⟩
  · obtain ⟨its, r', pl, hz⟩ := I.tuple hq
    exact call_tuple_same pl ⟨.ref p, H, I, rfl, q⟩

/-! ### the call of a builtin's method: o.m(..) -/
/-- the value is of that builtin type -/
def tyV (K : PySem.W.Frag) (T : String) (x : V) (H : Hp) : Prop := match x with
  | .str _ => T = "str"
  | .int _ => T = "int"
  | .ref p => (T = "list" ∧ ∃ xs, SqL K H p xs) ∨ (T = "tuple" ∧ ∃ o, K.lookup p = some o ∧ o.cls = .type "tuple" ∧ o.dict = none) ∨
      (T = "dict" ∧ ((∃ kvs, H p = some (.dK kvs)) ∨ ∃ kvs, H p = some (.dT kvs))) ∨ (T = "set" ∧ ∃ S n, H p = some (.set S n))
  | _ => False
theorem tyV_is {pins : List (Addr × Obj)} {σ : St} {H : Hp} {s : Shared} {T : String} {x : V} {v : Value} (I : Inv X pins σ H s) (r : RelV x v) (ty : tyV X.K T x H) :
    s.TypeIs v T ∧ ∀ a, v = .ref a → ∃ ob, s.heap.get? a = some ob ∧ ob.dict = none := by
  cases x with
  | str z =>
    obtain ⟨t, rfl⟩ := r
    cases (show T = "str" from ty)
    exact ⟨typeIs_str s z t, fun _ e => nomatch e⟩
  | int i =>
    obtain ⟨t, rfl⟩ := r
    cases (show T = "int" from ty)
    exact ⟨typeIs_int s i t, fun _ e => nomatch e⟩
  | ref p =>
    cases r
    rcases ty with ⟨rfl, xs, hq⟩ | ⟨rfl, o, hk, hc, hd⟩ | ⟨rfl, hk⟩ | ⟨rfl, S, n, hk⟩
    · obtain ⟨its, _, pl, _⟩ := I.list hq
      refine ⟨pl.isList.typeIs, fun a e => ?_⟩
      cases e
      obtain ⟨o, n, e, c, hd, _⟩ := pl
      exact ⟨o, e, hd⟩
    · refine ⟨⟨o, I.kIn p o hk, hc⟩, fun a e => ?_⟩
      cases e
      exact ⟨o, I.kIn _ o hk, hd⟩
    · have z : ∃ o, s.heap.get? p = some o ∧ o.ExactDict := by
        rcases hk with ⟨kvs, hk⟩ | ⟨kvs, hk⟩
        · obtain ⟨_, _, _, _, o, _, _, e, ex, _⟩ := I.hok p _ hk
          exact ⟨o, e, ex⟩
        · obtain ⟨_, _, _, _, o, _, _, e, ex, _⟩ := I.hok p _ hk
          exact ⟨o, e, ex⟩
      obtain ⟨o, e, ex⟩ := z
      refine ⟨⟨o, e, ex.1⟩, fun a e2 => ?_⟩
      cases e2
      exact ⟨o, e, ex.2.1⟩
    · obtain ⟨o, _, _, _, e, ex, _⟩ := I.hok p _ hk
      refine ⟨⟨o, e, ex.1⟩, fun a e2 => ?_⟩
      cases e2
      exact ⟨o, e, ex.2.1⟩
  | _ => exact False.elim ty
def tBM0 (K : PySem.W.Frag) (T : String) (r : V → List V → Hp → VK → Prop) (to : TE) : TE := fun σ H Q => to σ H fun x H1 => tyV K T x H1 ∧ r x [] H1 Q
def tBM (K : PySem.W.Frag) (T : String) (r : V → List V → Hp → VK → Prop) (to : TE) (t : TA) : TE := fun σ H Q => to σ H fun x H1 => tyV K T x H1 ∧ t σ H1 fun xs H2 => r x xs H2 Q
variable {o e : Expr} {es : List Expr} {to : TE} {t : TA} {name : Str} {apos cpos : Pos} {T id : String} {r : V → List V → Hp → VK → Prop}
theorem pe_bm0 (pa : PlainAttrs T) (slot : Slot T name id) (hty : typeOf (.builtin id) = pure (.type "method_descriptor")) (hm : MtR X id r) (ho : PE X o to)
    (hbase : attributeBase o name X.env (eval o X.env) = eval o X.env := by rfl) (hline : (apos.endLine == cpos.line) = true := by rfl) : PE X (.Call (.Attribute o name apos) [] [] cpos) (tBM0 X.K T r to) := by
  intro pins s σ H Q I h
  refine wpAny_Call_method0_late hbase hline (thn (ho pins s σ H _ I h) fun v s1 ⟨x, H1, I1, r1, ty, q1⟩ => ?_)
  obtain ⟨h1, h2⟩ := tyV_is I1 r1 ty
  exact ⟨T, id, pa, slot, hty, h1, h2, Calls.callWith_builtin rfl (PySem.evalArgs_none (hm pins s1 σ H1 x [] v [] Q I1 r1 .nil q1))⟩
theorem pe_bm (pa : PlainAttrs T) (slot : Slot T name id) (hty : typeOf (.builtin id) = pure (.type "method_descriptor")) (hm : MtR X id r) (ho : PE X o to) (ha : PA X (e :: es) t)
    (hbase : attributeBase o name X.env (eval o X.env) = eval o X.env := by rfl)
    (hfew : ((backTo cpos (starEach (e :: es) X.env)).all (fun x => !x.1) && (backToKw cpos (keywordEach [] X.env)).all (fun x => x.1.isSome)
      && decide ((e :: es).length + ([] : List Keyword).length + (if ([] : List Keyword).isEmpty then 0 else 1) < 30)) = true := by rfl)
    (hline : (apos.endLine == cpos.line) = true := by rfl) (hs : starEach (e :: es) X.env = (false, eval e X.env) :: starEach es X.env := by rfl) (hplain : (backTo cpos (starEach es X.env)).any (·.1) = false := by rfl) :
    PE X (.Call (.Attribute o name apos) (e :: es) [] cpos) (tBM X.K T r to t) := by
  intro pins s σ H Q I h
  refine wpAny_Call_method_late hbase hfew hline rfl (thn (ho pins s σ H _ I h) fun v s1 ⟨x, H1, I1, r1, ty, q1⟩ => ?_)
  obtain ⟨h1, h2⟩ := tyV_is I1 r1 ty
  refine ⟨T, id, pa, slot, hty, h1, h2, ?_⟩
  have hA := ha cpos pins s1 σ H1 _ I1 q1
  rw [hs] at hA ⊢
  refine Calls.callWith_builtin (by show (false || (backTo cpos (starEach es X.env)).any (·.1)) = false; rw [hplain] <;> rfl) (Calls.evalArgs_plain ?_)
  exact thn hA fun us s2 ⟨vs, H2, I2, r2, q2⟩ => hm pins s2 σ H2 x vs v us Q I2 r1 r2 q2
/- xs.append(e), list.index on a module's tuple .. are MtR facts of 06m -/
end
end L2

namespace L2
open PySem PySem.Spec PyProof.Rows

def MtM (X : Cx) (id : String) (r : V → List V → Hp → VK → Prop) : Prop :=
  ∀ (pins : List (Addr × Obj)) (s : Shared) (σ : St) (H : Hp) (x : V) (xs : List V) (v : Value) (us : List Value) (Q : VK), Inv X pins σ H s → RelV x v → Vals xs us → r x xs H Q →
    wpAny (model X.prog X.w) X.A (call (.builtin id) (v :: us)) (EP X pins σ Q) X.xe s

/-! ### lists of values -/
theorem Vals.one : ∀ {x : V} {us : List Value}, Vals [x] us → ∃ u, us = [u] ∧ RelV x u
  | _, _, .cons r .nil => ⟨_, rfl, r⟩
theorem Vals.two : ∀ {x y : V} {us : List Value}, Vals [x, y] us → ∃ u v, us = [u, v] ∧ RelV x u ∧ RelV y v
  | _, _, _, .cons r (.cons q .nil) => ⟨_, _, rfl, r, q⟩
theorem Vals.zero : ∀ {us : List Value}, Vals [] us → us = []
  | _, .nil => rfl
theorem Vals.dropLast {xs : List V} {us : List Value} (h : Vals xs us) : Vals xs.dropLast us.dropLast := by
  induction h with
  | nil => exact .nil
  | cons r t ih =>
    cases t with
    | nil => exact .nil
    | cons q t' => exact .cons r ih
theorem Vals.eraseIdx : ∀ {xs : List V} {us : List Value} (i : Nat), Vals xs us → Vals (xs.eraseIdx i) (us.eraseIdx i)
  | _, _, _, .nil => .nil
  | _, _, 0, .cons _ t => t
  | _, _, i + 1, .cons r t => .cons r (Vals.eraseIdx i t)
theorem Vals.reverse {xs : List V} {us : List Value} (h : Vals xs us) : Vals xs.reverse us.reverse := by
  induction h with
  | nil => exact .nil
  | cons r t ih => rw [List.reverse_cons, List.reverse_cons]; exact Vals.append ih (.cons r .nil)
theorem Vals.rep {xs : List V} {us : List Value} (h : Vals xs us) : ∀ k : Nat, Vals (List.replicate k xs).flatten (List.replicate k us).flatten
  | 0 => .nil
  | k + 1 => by
    rw [List.replicate_succ, List.replicate_succ, List.flatten_cons, List.flatten_cons]
    exact Vals.append h (Vals.rep h k)
theorem erase_last {α : Type} (l : List α) : l.eraseIdx (l.length - 1) = l.dropLast := by
  induction l with
  | nil => rfl
  | cons a r ih =>
    cases r with
    | nil => rfl
    | cons b r =>
      have e : (a :: b :: r).length - 1 = ((b :: r).length - 1) + 1 := by
        have h1 : (a :: b :: r).length = r.length + 2 := rfl
        have h2 : (b :: r).length = r.length + 1 := rfl
        omega
      rw [e, List.eraseIdx_cons_succ, ih]
      all_goals rfl
theorem len_erase {α : Type} : ∀ (l : List α) (i : Nat), (l.eraseIdx i).length ≤ l.length
  | [], _ => Nat.le_refl _
  | _ :: _, 0 => Nat.le_succ _
  | _ :: r, i + 1 => Nat.succ_le_succ (len_erase r i)
theorem foldl_rep (its : List Value) : ∀ (k : Nat) (acc : List Value),
    List.foldl (fun x1 x2 => x1 ++ x2) acc.toArray (List.replicate k its.toArray) = (acc ++ (List.replicate k its).flatten).toArray
  | 0, acc => by simp
  | k + 1, acc => by
    have e : acc.toArray ++ its.toArray = (acc ++ its).toArray := by simp
    have e2 : (acc ++ its) ++ (List.replicate k its).flatten = acc ++ (List.replicate (k + 1) its).flatten := by
      rw [List.replicate_succ, List.flatten_cons, List.append_assoc]
    rw [← e2, ← foldl_rep its k (acc ++ its), ← e, List.replicate_succ, List.foldl_cons]

section
variable {X : Cx} {pins : List (Addr × Obj)} {σ : St} {H : Hp} {s : Shared} {l b : Addr} {xs ys zs : List V}

/-! ### the two steps: a tracked list is rewritten, a new list is laid -/
theorem Inv.lset {its its' : List Value} {n : Nat} {f : Array Value → Array Value} {t' : Nat} (I : Inv X pins σ H s) (hH : H l = some (.lst xs))
    (e : s.heap.get? l = some { cls := .type "list", data := .seq its.toArray n }) (hf : f its.toArray = its'.toArray) (hv : Vals ys its') (hz : ys.length ≤ sizeLine) :
    Inv X pins σ (upd H l (.lst ys)) { s with heap := s.heap.update l (Obj.mapSeq f), toks := t' } := by
  have q := PySem.IsL.update e f
  rw [hf] at q
  refine I.write (x := l) (e := l) (by rw [hH]; exact trivial) (.inl rfl) (fun b' u hb hu => (Heap.get?_update_other s.heap (Obj.mapSeq f) (Ne.symm hb)).trans hu) ⟨_, q⟩ ?_
  exact ⟨hz, its', _, hv, q⟩
theorem Inv.lnew {its : List Value} {t' : Nat} (I : Inv X pins σ H s) (hv : Vals ys its) (hz : ys.length ≤ sizeLine) :
    Inv X pins σ (upd H s.heap.objs.size (.lst ys)) { s with heap := s.heap.push { cls := .type "list", data := .seq its.toArray }, toks := t' } :=
  I.laid (fun _ _ q => Heap.get?_push_of_some _ q) (Nat.le_refl _) ⟨hz, its, 0, hv, Heap.get?_push_size _ rfl⟩
theorem Inv.fresh (I : Inv X pins σ H s) : H s.heap.objs.size = none := I.hok.fresh (Nat.le_refl _)
theorem Inv.lstM (I : Inv X pins σ H s) (hH : H l = some (.lst xs)) : xs.length ≤ sizeLine ∧ ∃ (its : List Value) (n : Nat), Vals xs its ∧ xs.length = its.length ∧ s.heap.get? l = some { cls := .type "list", data := .seq its.toArray n } := by
  obtain ⟨z, its, n, r, e⟩ := I.hok l _ hH
  exact ⟨z, its, n, r, r.length, e⟩

theorem notLongL {n : Nat} (h : n ≤ sizeLine) : Builtin.List.listTooLong n = false := by
  unfold Builtin.List.listTooLong
  exact decide_eq_false (by omega)
end

section
variable {X : Cx}

/-! ### methods -/
def rAppend : V → List V → Hp → VK → Prop := fun x vs H Q => ∃ l xs y, x = .ref l ∧ vs = [y] ∧ H l = some (.lst xs) ∧ xs.length < sizeLine ∧ Q .non (upd H l (.lst (xs ++ [y])))
theorem mt_append : MtM X "list.append" rAppend := by
  intro pins s σ H x vs v us Q I rx rv h
  obtain ⟨l, xs, y, rfl, rfl, hH, hz, q⟩ := h
  cases rx
  obtain ⟨u, rfl, ru⟩ := rv.one
  obtain ⟨z, its, n, r, hl, e⟩ := I.lstM hH
  refine call_meets F.slot_list_append ⟨_, e, rfl⟩ F.entry_list_append (F.args_list_append_2 _ _) (PySem.list_append l its.toArray n u (by rw [List.size_toArray]; omega)) ⟨e, ?_⟩
  refine ⟨.non, _, I.lset (its' := its ++ [u]) hH e (by simp) (r.append (.cons ru .nil)) ?_, rfl, q⟩
  rw [List.length_append, List.length_singleton]
  omega

def rExtend : V → List V → Hp → VK → Prop := fun x vs H Q => ∃ l b xs zs, x = .ref l ∧ vs = [.ref b] ∧ H l = some (.lst xs) ∧ H b = some (.lst zs) ∧ xs.length + zs.length ≤ sizeLine ∧ Q .non (upd H l (.lst (xs ++ zs)))
theorem mt_extend : MtM X "list.extend" rExtend := by
  intro pins s σ H x vs v us Q I rx rv h
  obtain ⟨l, b, xs, zs, rfl, rfl, hH, hB, hz, q⟩ := h
  cases rx
  obtain ⟨u, rfl, ru⟩ := rv.one
  cases ru
  obtain ⟨z, its, n, r, hl, e⟩ := I.lstM hH
  obtain ⟨z2, its2, n2, r2, hl2, e2⟩ := I.lstM hB
  have hsz : its.toArray.size + its2.toArray.size ≤ sizeLine := by rw [List.size_toArray, List.size_toArray]; omega
  have hlong : ¬ (!its.toArray.isEmpty && Builtin.List.listTooLong (its.toArray.size + its2.toArray.size)) = true := by
    rw [notLongL hsz, Bool.and_false]
    exact Bool.false_ne_true
  refine call_meets F.slot_list_extend ⟨_, e, rfl⟩ F.entry_list_extend (F.args_list_extend_2 _ _)
    (AutoSeq1.list_extend_list_list_0 l its.toArray n b its2.toArray n2 hlong (by rw [List.size_toArray]; omega) (by omega)) ⟨e, e2, ?_⟩
  refine ⟨.non, _, I.lset (its' := its ++ its2) hH e (by simp) (r.append r2) ?_, rfl, q⟩
  rw [List.length_append]
  omega

def rPop : V → List V → Hp → VK → Prop := fun x vs H Q => ∃ l xs y, x = .ref l ∧ vs = [] ∧ H l = some (.lst xs) ∧ xs[xs.length - 1]? = some y ∧ Q y (upd H l (.lst xs.dropLast))
theorem mt_pop : MtM X "list.pop" rPop := by
  intro pins s σ H x vs v us Q I rx rv h
  obtain ⟨l, xs, y, rfl, rfl, hH, hy, q⟩ := h
  cases rx
  have hus := rv.zero
  subst hus
  obtain ⟨z, its, n, r, hl, e⟩ := I.lstM hH
  obtain ⟨u, hu, ru⟩ := r.get hy
  have hy' : its.toArray[its.toArray.size - 1]? = some u := by
    show its.toArray[its.length - 1]? = some u
    rw [← Array.getElem?_toList, ← hl]
    exact hu
  refine call_meets F.slot_list_pop ⟨_, e, rfl⟩ F.entry_list_pop (F.args_list_pop_1 _) (MeetsSeq.list_pop_last l its.toArray n u hy' (by rw [List.size_toArray]; omega)) ⟨e, ?_⟩
  refine ⟨y, _, I.lset (its' := its.dropLast) hH e ?_ r.dropLast ?_, ru, q⟩
  · show its.toArray.eraseIdxIfInBounds (its.toArray.size - 1) = its.dropLast.toArray
    rw [List.size_toArray, List.eraseIdxIfInBounds_toArray, erase_last]
  · rw [List.length_dropLast]
    omega

def rPopAt : V → List V → Hp → VK → Prop := fun x vs H Q => ∃ l xs i k y, x = .ref l ∧ vs = [.int i] ∧ H l = some (.lst xs) ∧ -(2 ^ 63) ≤ i ∧ i < 2 ^ 63 ∧ seqIndex? i xs.length = some k ∧ xs[k]? = some y ∧ Q y (upd H l (.lst (xs.eraseIdx k)))
theorem mt_popAt : MtM X "list.pop" rPopAt := by
  intro pins s σ H x vs v us Q I rx rv h
  obtain ⟨l, xs, i, k, y, rfl, rfl, hH, h1, h2, hk, hy, q⟩ := h
  cases rx
  obtain ⟨u, rfl, ru⟩ := rv.one
  obtain ⟨t, rfl⟩ := ru
  obtain ⟨z, its, n, r, hl, e⟩ := I.lstM hH
  obtain ⟨w, hw, rw'⟩ := r.get hy
  refine call_meets F.slot_list_pop ⟨_, e, rfl⟩ F.entry_list_pop (F.args_list_pop_2 _ _)
    (MeetsSeq.list_pop_at l its.toArray n i t k w (fitsIndex_both h1 h2) (by rw [List.size_toArray, ← hl]; exact hk) (by rw [← Array.getElem?_toList]; exact hw) (by rw [List.size_toArray]; omega)) ⟨e, ?_⟩
  refine ⟨y, _, I.lset (its' := its.eraseIdx k) hH e ?_ (r.eraseIdx k) ?_, rw', q⟩
  · show its.toArray.eraseIdxIfInBounds k = (its.eraseIdx k).toArray
    rw [List.eraseIdxIfInBounds_toArray]
  · have := len_erase xs k
    omega

def rReverse : V → List V → Hp → VK → Prop := fun x vs H Q => ∃ l xs, x = .ref l ∧ vs = [] ∧ H l = some (.lst xs) ∧ Q .non (upd H l (.lst xs.reverse))
theorem mt_reverse : MtM X "list.reverse" rReverse := by
  intro pins s σ H x vs v us Q I rx rv h
  obtain ⟨l, xs, rfl, rfl, hH, q⟩ := h
  cases rx
  have hus := rv.zero
  subst hus
  obtain ⟨z, its, n, r, hl, e⟩ := I.lstM hH
  refine call_meets F.slot_list_reverse ⟨_, e, rfl⟩ F.entry_list_reverse (F.args_list_reverse_1 _) (AutoSeq1.list_reverse_list_0 l its.toArray n (by rw [List.size_toArray]; omega)) ⟨e, ?_⟩
  refine ⟨.non, _, I.lset (its' := its.reverse) hH e (by simp) r.reverse ?_, rfl, q⟩
  rw [List.length_reverse]
  omega

def rClear : V → List V → Hp → VK → Prop := fun x vs H Q => ∃ l xs, x = .ref l ∧ vs = [] ∧ H l = some (.lst xs) ∧ Q .non (upd H l (.lst []))
theorem mt_clear : MtM X "list.clear" rClear := by
  intro pins s σ H x vs v us Q I rx rv h
  obtain ⟨l, xs, rfl, rfl, hH, q⟩ := h
  cases rx
  have hus := rv.zero
  subst hus
  obtain ⟨z, its, n, r, hl, e⟩ := I.lstM hH
  refine call_meets F.slot_list_clear ⟨_, e, rfl⟩ F.entry_list_clear (F.args_list_clear_1 _) (AutoSeq1.list_clear_list_0 l its.toArray n (by rw [List.size_toArray]; omega)) ⟨e, ?_⟩
  exact ⟨.non, _, I.lset (its' := []) (ys := []) hH e rfl .nil (Nat.zero_le _), rfl, q⟩

/-! ### list + list, list += list, list * int -/
def rCat : R2 := fun x y H Q => ∃ l b xs zs, x = .ref l ∧ y = .ref b ∧ H l = some (.lst xs) ∧ H b = some (.lst zs) ∧ xs.length + zs.length ≤ sizeLine ∧ ∀ p, H p = none → Q (.ref p) (upd H p (.lst (xs ++ zs)))
theorem op_cat : OpR X (binaryOp .Add) rCat := by
  intro pins s σ H x y v u Q I rx ry h
  obtain ⟨l, b, xs, zs, rfl, rfl, hH, hB, hz, q⟩ := h
  cases rx
  cases ry
  obtain ⟨z, its, n, r, hl, e⟩ := I.lstM hH
  obtain ⟨z2, its2, n2, r2, hl2, e2⟩ := I.lstM hB
  refine PySem.P.add_list e e2 ?_ (by rw [List.size_toArray, List.size_toArray]; omega)
  have ea : its.toArray ++ its2.toArray = (its ++ its2).toArray := by simp
  rw [ea]
  exact ⟨.ref _, _, I.lnew (t' := s.toks) (r.append r2) (by rw [List.length_append]; omega), rfl, q _ I.fresh⟩
/-- a list times an int (a negative one is nothing) -/
def rRep : R2 := fun x y H Q => ∃ l k xs, x = .ref l ∧ y = .int k ∧ H l = some (.lst xs) ∧ -(2 ^ 63) ≤ k ∧ k < 2 ^ 63 ∧ xs.length * k.toNat ≤ sizeLine ∧
  ∀ p, H p = none → Q (.ref p) (upd H p (.lst (List.replicate k.toNat xs).flatten))
theorem len_rep {α : Type} (xs : List α) (k : Nat) : (List.replicate k xs).flatten.length = k * xs.length := by
  induction k with
  | zero => simp
  | succ k ih => rw [List.replicate_succ, List.flatten_cons, List.length_append, ih, Nat.succ_mul, Nat.add_comm]
theorem op_rep : OpR X (binaryOp .Mult) rRep := by
  intro pins s σ H x y v u Q I rx ry h
  obtain ⟨l, k, xs, rfl, rfl, hH, h1, h2, hz, q⟩ := h
  cases rx
  obtain ⟨t, rfl⟩ := ry
  obtain ⟨z, its, n, r, hl, e⟩ := I.lstM hH
  have hlen : its.toArray.size * k.toNat ≤ sizeLine := by rw [List.size_toArray, ← hl]; exact hz
  have hcap : ¬ its.toArray.size * k.toNat > (2 ^ 63 - 1) / 8 := by
    have : (sizeLine : Nat) ≤ (2 ^ 63 - 1) / 8 := by decide
    omega
  have hfit : ¬ (!Builtin.List.listFitsIndex k) = true := by
    rw [fitsIndex_both h1 h2]
    exact Bool.false_ne_true
  have hlong : ¬ Builtin.List.listTooLong (its.toArray.size * k.toNat) = true := by
    rw [notLongL hlen]
    exact Bool.false_ne_true
  have hnew : List.foldl (fun x1 x2 => x1 ++ x2) #[] (List.replicate (if its.toArray.isEmpty = true then 0 else k.toNat) its.toArray) = (List.replicate k.toNat its).flatten.toArray := by
    have f0 : ∀ m : Nat, List.foldl (fun x1 x2 => x1 ++ x2) #[] (List.replicate m its.toArray) = (List.replicate m its).flatten.toArray := fun m => by
      have := foldl_rep its m []
      rw [List.nil_append] at this
      exact this
    rw [f0]
    cases its with
    | nil => simp
    | cons a r' => rw [if_neg (by simp)]
  refine wpAny_binaryOp_repeat_ref (T := "list") (U := "int") (by decide) ⟨_, e, rfl⟩ (fun s' => typeIs_int s' k t) noFill_list_mul F.fills_int_mul F.slot_int_rmul repeat_list F.slot_int_index.lookup
    (call_meets F.slot_int_rmul (typeIs_int s k t) F.entry_int_rmul (F.args_int_rmul_2 _ _) (int___rmul___int_list k t l its.toArray n)
      ⟨e, rfl, ⟨_, e, rfl⟩, call_meets F.slot_list_mul ⟨_, e, rfl⟩ F.entry_list_mul (F.args_list_mul_2 _ _) (AutoListH.list___mul___list_int_3 l its.toArray n k t hfit hcap hlong) ⟨e, ?_⟩⟩)
  rw [hnew]
  exact ⟨.ref _, _, I.lnew (t' := s.toks) (r.rep k.toNat) (by rw [len_rep, Nat.mul_comm]; exact hz), rfl, q _ I.fresh⟩

/-! ### del xs[i] -/
theorem del_list {pins : List (Addr × Obj)} {s : Shared} {σ : St} {H : Hp} {l : Addr} {xs : List V} {i : Int} {t : Tok} {k : Nat} {Q : Unit → Shared → Prop} (I : Inv X pins σ H s) (hH : H l = some (.lst xs))
    (h1 : -(2 ^ 63) ≤ i) (h2 : i < 2 ^ 63) (hk : seqIndex? i xs.length = some k) (h : ∀ s', Inv X pins σ (upd H l (.lst (xs.eraseIdx k))) s' → Q () s') :
    wpAny (model X.prog X.w) X.A (delItem (.ref l) (.int i t)) Q X.xe s := by
  obtain ⟨z, its, n, r, hl, e⟩ := I.lstM hH
  refine PySem.P.delItem_list (k := k) e (fitsIndex_both h1 h2) (by rw [List.size_toArray, ← hl]; exact hk) (h _ ?_) (by rw [List.size_toArray]; omega)
  refine I.lset (its' := its.eraseIdx k) (t' := s.toks) hH e ?_ (r.eraseIdx k) ?_
  · show its.toArray.eraseIdxIfInBounds k = (its.eraseIdx k).toArray
    rw [List.eraseIdxIfInBounds_toArray]
  · have := len_erase xs k
    omega
end

/-! ### xs[a:b] = ys -/
section
variable {prog : Program} {w : World} {A : Around} {E : Value → Shared → Prop} {s : Shared}
theorem splice_eq (its its2 : List Value) (a c : Nat) : its.toArray.extract 0 a ++ its2.toArray ++ its.toArray.extract c its.toArray.size = (its.take a ++ its2 ++ its.drop c).toArray := by
  apply Array.toList_inj.mp
  first
    | (simp
       exact List.take_of_length_le (by simp))
    | simp [List.take_of_length_le]
    | simp
theorem bounds_run {a c n : Nat} (hac : a ≤ c) (hc : c ≤ n) : sliceBounds (some (a : Int)) (some (c : Int)) none n = ((a : Int), (c : Int), 1) := by
  simp only [sliceBounds, Option.getD_none]
  have h1 : ¬ ((a : Int) < 0) := by omega
  have h2 : ¬ ((c : Int) < 0) := by omega
  simp only [h1, h2, if_false, show (1 : Int) > 0 by decide, if_true]
  congr 1
  · omega
  · congr 1; omega
set_option maxRecDepth 100000 in
/-- list.__setitem__ with a slice of step one and another list -/
theorem setItem_slice {l b sl : Addr} {items new : Array Value} {n n2 : Nat} {vl vu : Value} {a c : Nat} {Q : Unit → Shared → Prop}
    (e : s.heap.get? l = some { cls := .type "list", data := .seq items n }) (e2 : s.heap.get? b = some { cls := .type "list", data := .seq new n2 }) (hne : l ≠ b)
    (hs : s.heap.IsSliceOf sl vl vu .none) (pl : IsPart vl (some (a : Int))) (pu : IsPart vu (some (c : Int))) (hac : a ≤ c) (hc : c ≤ items.size)
    (hsz : items.size + new.size ≤ sizeLine) (h : Q () { s with heap := s.heap.update l (Obj.mapSeq fun xs => xs.extract 0 a ++ new ++ xs.extract c xs.size) }) :
    wpAny (model prog w) A (setItem (.ref l) (.ref sl) (.ref b)) Q E s := by
  have hl : s.heap.IsList l items := PySem.IsL.isList e
  have hb : s.heap.IsList b new := PySem.IsL.isList e2
  obtain ⟨os, hos, hcs, hds⟩ := id hs
  have hTs : s.TypeIs (.ref sl) "slice" := ⟨os, hos, hcs⟩
  have hstep : ¬ ((rawPart none == rawInt 0) = true) := Bool.false_ne_true
  have hsame : Builtin.List.listSameRef (.ref l) (.ref b) = false := by
    unfold Builtin.List.listSameRef
    exact beq_eq_false_iff_ne.mpr hne
  have hmax : (max (a : Int) (c : Int)).toNat = c := by omega
  have hz' : ((fun xs : Array Value => xs.extract 0 a ++ new ++ xs.extract c xs.size) items).size ≤ sizeLine + 1 := by
    simp only [Array.size_append, Array.size_extract]
    omega
  unfold setItem
  try with_reducible refine wpAny_holding ?_
  first | refine wpAny_bind (wpAny_pure ?_) | skip
  refine wpAny_bind (wpAny_sequenceKey hl.typeIs (by decide) ?_)
  refine wpAny_bind (wpAny_callSpecial?_slot (name := Str.ofString "__setitem__") hl.typeIs slot_list_setitem
    (wpAny_call_entry slot_list_setitem hl.typeIs entry_list_setitem ?_ (args_list_setitem _ _ _)))
  show wpAny _ _ (Builtin.List.listSubscript? (.ref sl) >>= _) _ _ s
  refine wpAny_bind ?_
  unfold Builtin.List.listSubscript?
  refine wpAny_bind (wpAny_specialOf hTs slice_no_index ?_)
  simp only [Option.isNone_none, if_true]
  refine wpAny_pure ?_
  show wpAny _ _ (typeOf (.ref sl) >>= _) _ _ s
  refine wpAny_bind (wpAny_typeOf hTs ?_)
  first
    | rw [if_neg (by decide)]
    | refine PySem.W.KFB.if_not (by decide) ?_
  rw [listSliceParts_eq]
  refine wpAny_bind (wpAny_bind (wpAny_field hos hds (x := .none) rfl (wpAny_bind (wpAny_listPart .none ?_))))
  rw [if_neg hstep]
  refine wpAny_bind (wpAny_field hos hds (x := vl) rfl (wpAny_bind (wpAny_listPart pl ?_)))
  refine wpAny_bind (wpAny_field hos hds (x := vu) rfl (wpAny_bind (wpAny_listPart pu (wpAny_pure ?_))))
  first
    | simp only [hsame, Bool.false_eq_true, if_false]
    | refine PySem.W.KFB.if_not hsame ?_
    | (dsimp only
       rw [if_neg (by rw [hsame]; exact Bool.false_ne_true)])
  refine wpAny_bind (m := Builtin.List.listAllItems (.ref b) "must assign iterable to extended slice") ?_
  unfold Builtin.List.listAllItems
  refine wpAny_bind (wpAny_typeOf hb.typeIs ?_)
  first
    | refine PySem.W.KFB.if_so (by decide) ?_
    | rw [if_pos (by decide)]
    | simp only [beq_self_eq_true, Bool.true_or, if_true]
  unfold Builtin.List.listItems
  refine wpAny_bind (wpAny_seqItems e2 rfl (wpAny_pure ?_))
  refine wpAny_bind (wpAny_bind (wpAny_seqItems e rfl (wpAny_pure ?_)))
  refine wpAny_bind (wpAny_of_eq ((sliceIndices_raw (some (a : Int)) (some (c : Int)) none items.size (by simp)).trans (congrArg (pure : Int × Int × Int → Sem (Int × Int × Int)) (bounds_run hac hc))) ?_)
  show wpAny _ _ (if ((1 : Int) == 1) = true then _ else _) _ _ s
  rw [if_pos (by decide)]
  refine wpAny_bind (wpAny_rule ?_)
  first
    | simp only [notLongL hsz, Bool.false_eq_true, if_false]
    | refine PySem.W.KFB.if_not (notLongL hsz) ?_
  first | refine wpAny_bind (wpAny_pure ?_) | skip
  show wpAny _ _ (updateSeq l (fun xs => xs.extract 0 ((a : Int)).toNat ++ new ++ xs.extract (max (a : Int) (c : Int)).toNat xs.size) >>= _) _ _ s
  rw [hmax, Int.toNat_natCast]
  refine wpAny_bind (wpAny_updateSeq (hz := Nat.le_trans (Nat.le_add_right _ _) hsz) (_hz' := hz') e rfl ?_)
  refine wpAny_bind (wpAny_letGo ?_)
  first
    | exact wpAny_bind (wpAny_pure (wpAny_pure ⟨.none, rfl, wpAny_pure h⟩))
    | exact wpAny_pure ⟨.none, rfl, wpAny_pure h⟩
end

section
variable {X : Cx}
/-- xs[a:c] = ys of another list, at the value level: sl is the slice object that was just made -/
theorem set_slice {pins : List (Addr × Obj)} {s : Shared} {σ : St} {H : Hp} {l b sl : Addr} {xs ys : List V} {a c : Int} {vl vu : Value} {Q : Unit → Shared → Prop} (I : Inv X pins σ H s)
    (hH : H l = some (.lst xs)) (hB : H b = some (.lst ys)) (hne : l ≠ b) (hs : s.heap.IsSliceOf sl vl vu .none) (ra : RelV (.int a) vl) (rc : RelV (.int c) vu) (h0 : 0 ≤ a) (hac : a ≤ c) (hc : c ≤ xs.length)
    (hz : xs.length + ys.length ≤ sizeLine) (h : ∀ s', Inv X pins σ (upd H l (.lst (xs.take a.toNat ++ ys ++ xs.drop c.toNat))) s' → Q () s') :
    wpAny (model X.prog X.w) X.A (setItem (.ref l) (.ref sl) (.ref b)) Q X.xe s := by
  obtain ⟨ta, rfl⟩ := ra
  obtain ⟨tc, rfl⟩ := rc
  obtain ⟨z, its, n, r, hl, e⟩ := I.lstM hH
  obtain ⟨z2, its2, n2, r2, hl2, e2⟩ := I.lstM hB
  obtain ⟨a', rfl⟩ := Int.eq_ofNat_of_zero_le h0
  obtain ⟨c', rfl⟩ := Int.eq_ofNat_of_zero_le (Int.le_trans h0 hac)
  simp only [Int.toNat_natCast] at h
  refine setItem_slice (a := a') (c := c') e e2 hne hs (.int _ _) (.int _ _) (by omega) (by rw [List.size_toArray]; omega) (by rw [List.size_toArray, List.size_toArray]; omega) (h _ ?_)
  refine I.lset (its' := its.take a' ++ its2 ++ its.drop c') (t' := s.toks) hH e ?_ (Vals.append (Vals.append (r.take _) r2) (r.drop _)) ?_
  · exact splice_eq its its2 a' c'
  · rw [List.length_append, List.length_append, List.length_take, List.length_drop]
    omega
end
end L2

namespace Att
open PySem PySem.W PySem.Calls PyProof.Rows

/-! ### the script -/
theorem ints_of_wellAll {P : Params} {h : Heap} : ∀ (ns : List Int) (vs : List Value), WellAll P h vs (ns.map WData.int) → IntsAre vs ns := by
  intro ns
  induction ns with
  | nil =>
    intro vs w
    rw [List.map_nil] at w
    cases w
    exact .nil
  | cons n ns ih =>
    intro vs w
    rw [List.map_cons] at w
    cases w with
    | cons a b =>
      cases a
      exact .cons _ _ (ih _ b)

theorem script_of {l : OpenLaw} {n : Nat} (hn : l.most = some n) {P : Params} {h : Heap} {args : List WData} {vals : List Value}
    (hpre : l.row.toRowW.claim.pre args = true) (hwl : WellAll P h vals args) :
    ∃ a vs ns, vals = [Value.ref a] ∧ args = [WData.list (ns.map WData.int)] ∧ h.get? a = some { cls := .type "list", data := .seq vs.toArray } ∧ IntsAre vs ns ∧ ns.length ≤ n := by
  have hsh : WShape.hasAll [] args [.list .int] = true := (pre_splitW hpre).1
  have hc : l.pre.holds [] { args := args } = true := (pre_splitW hpre).2
  obtain ⟨d, r, rfl, h1, h2⟩ := hasAllW_cons hsh
  obtain rfl := hasAllW_nil h2
  obtain ⟨xs, rfl, h3⟩ := hasW_list h1
  obtain ⟨ns, rfl⟩ := items_int h3
  have hlen : ns.length ≤ n := by
    unfold OpenLaw.pre at hc
    have h4 : (WTm.not (.lt (.lit (.int (n : Int))) (.len (.arg 0)))).holds [] { args := [.list (ns.map .int)] } = true := by
      have h4 := (holds_andW hc).1
      rw [hn] at h4
      exact h4
    have h5 := condW_of h4 (w_not (w_lt w_lit (w_len_list (w_arg rfl))))
    rw [List.length_map] at h5
    refine Nat.le_of_not_lt fun q => ?_
    have q' : (n : Int) < ((ns.length : Nat) : Int) := by omega
    first
      | (rw [decide_eq_true q'] at h5; exact absurd h5 (by decide))
      | (simp at h5; omega)
  cases hwl with
  | cons w1 w2 =>
    cases w2
    cases w1 with
    | list ho hall => exact ⟨_, _, ns, rfl, rfl, ho, ints_of_wellAll ns _ hall, hlen⟩

theorem post_true (l : OpenLaw) (args : List WData) : l.row.toRowW.claim.post args (.bool true) args = true :=
  postW_of (r := l.row.toRowW) (X := (true == true))
    (show WShape.has [] (.bool true) .bool = true by first | rfl | decide | simp [WShape.has, WShape.arms, WShape.armsAll])
    (show (WTm.eq .res (.lit (.bool true))).value [] { args := args, res := some (.bool true), after := args } = some (.bool (true == true)) from w_eq_bool (w_res rfl) w_lit) rfl

/-! ### the attachment: holds_open's last premise (the goal 'hc' behind k_head) from a wpAny of the law's body -/
theorem attach {l : OpenLaw} {n : Nat} {q : Program} {loose : List Str} {XP : (Str → Option Value) → Heap → Prop} {YP : World → Heap → Prop} {d : DefRec} {x : Str}
    (hn : l.most = some n) (hdf : d.params.defaults = [])
    (hbind : ∀ pm cd doc v : Value, bindArgs (docDef d.name d.params d.body d.scope pm cd doc) ⟨[v], []⟩ = pure [(x, v)])
    (hx : d.scope.names.lookup x = some .local ∨ d.scope.names.lookup x = some .cell)
    (hk : d.scope.kind = .function) (hco : d.scope.isCoroutine = false) (hgen : d.scope.isGenerator = false)
    (body : ∀ (w : World) (s₀ s₁ s : Shared) (mg mb : Str → Option Value) (fa : Addr) (o : Obj) (pm cd doc : Value) (a : Addr) (vs : List Value) (ns : List Int),
      Ground q loose [] XP w s₀ mg mb s₁.heap → YP w s₁.heap →
      s₁.heap.get? fa = some o → o.data = .func (docDef d.name d.params d.body d.scope pm cd doc) → s₁.heap.CodeRec cd d.name → mg d.name = some (.ref fa) →
      s₁.heap.get? a = some { cls := .type "list", data := .seq vs.toArray } → IntsAre vs ns → ns.length ≤ n →
      s.gens = #[] → s.os = s₁.os →
      Fr s₁.heap s₁.heap.objs.size s.heap (bindL (envOfC d.name d.scope s₁.heap.objs.size fa cd).kindOf [(x, .ref a)] fun _ => none) →
      Cl s₁.heap.objs.size (cellsFrom (s₁.heap.objs.size + 1) d.scope.names []) s.heap (bindC (envOfC d.name d.scope s₁.heap.objs.size fa cd).kindOf [(x, .ref a)] fun _ => none) →
      wpAny (model l.prog w) (callerA.deeper (envOfC d.name d.scope s₁.heap.objs.size fa cd)) (execs d.body (envOfC d.name d.scope s₁.heap.objs.size fa cd))
        (fun f s' => f = .ret (.bool true) ∧ OldK s₁.heap s'.heap ∧ s'.os = s₁.os ∧ AllBare s'.gens) (fun _ _ => False) s) :
    WalkO q loose XP YP l.row.toRowW d [] (fun f vs => PySem.call f vs) := by
  intro w s₀ s₁ mg mb G Y fa o pm cd doc dV kV ho hd hcd hD hmg hg args vals as hpre hlay hrd hwl hlo
  obtain rfl : dV = .none := Dflts.none hD hdf
  obtain rfl : kV = .none := Dflts.noKw hD
  obtain ⟨a, vs, ns, rfl, rfl, hobj, hints, hlen⟩ := script_of hn hpre hwl
  refine enter_call ?_
  refine call_cells_ret (o := o) (by rw [depth_caller]; decide) ho (fd_plain hd) G.T.nolimit hcd (hbind pm cd doc (.ref a)) (fun y hy => ?_) (fun h₁ tk F X => ?_) hco hgen hk
  · obtain rfl : y = (x, Value.ref a) := List.mem_singleton.mp hy
    rcases hx with e | e
    · exact .inl e
    · exact .inr ⟨e, cellsFrom_some _ _ _ (.inl e)⟩
  · refine wpAny_mono (body w s₀ s₁ { s₁ with heap := h₁, toks := tk } mg mb fa o pm cd doc a vs ns G Y ho (fd_plain hd) hcd hmg hobj hints hlen hg rfl F X) (fun f s' hq => ?_) (fun _ _ hq => hq)
    obtain ⟨rfl, h2, h3, h4⟩ := hq
    exact ⟨.inl ⟨.bool true, .bool true, [], rfl, fun _ => rfl, .bool true, post_true l _, fun _ => ⟨List.Pairwise.nil, fun _ hm => (nomatch hm)⟩⟩, h2, h3, h4⟩

/-- the same from a codeAny of the CALL (for a layer whose function contracts speak of calls) -/
theorem attach_call {l : OpenLaw} {n : Nat} {q : Program} {loose : List Str} {XP : (Str → Option Value) → Heap → Prop} {YP : World → Heap → Prop} {d : DefRec}
    (hn : l.most = some n) (hdf : d.params.defaults = [])
    (call : ∀ (w : World) (s₀ s₁ : Shared) (mg mb : Str → Option Value) (fa : Addr) (o : Obj) (pm cd doc : Value) (a : Addr) (vs : List Value) (ns : List Int),
      Ground q loose [] XP w s₀ mg mb s₁.heap → YP w s₁.heap →
      s₁.heap.get? fa = some o → o.data = .func (docDef d.name d.params d.body d.scope pm cd doc) → s₁.heap.CodeRec cd d.name → mg d.name = some (.ref fa) →
      s₁.heap.get? a = some { cls := .type "list", data := .seq vs.toArray } → IntsAre vs ns → ns.length ≤ n → s₁.gens = #[] →
      codeAny (model l.prog w) callerA (.call (.ref fa) ⟨[.ref a], []⟩) (fun r s' => r = .ok (.ret (.bool true)) ∧ OldK s₁.heap s'.heap ∧ s'.os = s₁.os ∧ AllBare s'.gens) s₁) :
    WalkO q loose XP YP l.row.toRowW d [] (fun f vs => PySem.call f vs) := by
  intro w s₀ s₁ mg mb G Y fa o pm cd doc dV kV ho hd hcd hD hmg hg args vals as hpre hlay hrd hwl hlo
  obtain rfl : dV = .none := Dflts.none hD hdf
  obtain rfl : kV = .none := Dflts.noKw hD
  obtain ⟨a, vs, ns, rfl, rfl, hobj, hints, hlen⟩ := script_of hn hpre hwl
  refine enter_call (codeAny_mono (call w s₀ s₁ mg mb fa o pm cd doc a vs ns G Y ho (fd_plain hd) hcd hmg hobj hints hlen hg) fun r s' hq => ?_)
  obtain ⟨rfl, h2, h3, h4⟩ := hq
  exact ⟨.inl ⟨.bool true, .bool true, [], rfl, fun _ => rfl, .bool true, post_true l _, fun _ => ⟨List.Pairwise.nil, fun _ hm => (nomatch hm)⟩⟩, h2, h3, h4⟩

/-- the same where the top left finished generators (o_head chose holds_openN): nothing may have changed at all and no generator may be left -/
theorem attachN {l : OpenLaw} {n : Nat} {q : Program} {loose : List Str} {XP : (Str → Option Value) → Heap → Prop} {YP : World → Heap → Prop} {d : DefRec} {x : Str}
    (hn : l.most = some n) (hdf : d.params.defaults = [])
    (hbind : ∀ pm cd doc v : Value, bindArgs (docDef d.name d.params d.body d.scope pm cd doc) ⟨[v], []⟩ = pure [(x, v)])
    (hx : d.scope.names.lookup x = some .local ∨ d.scope.names.lookup x = some .cell)
    (hk : d.scope.kind = .function) (hco : d.scope.isCoroutine = false) (hgen : d.scope.isGenerator = false)
    (body : ∀ (w : World) (s₀ s₁ s : Shared) (mg mb : Str → Option Value) (fa : Addr) (o : Obj) (pm cd doc : Value) (a : Addr) (vs : List Value) (ns : List Int),
      Ground q loose [] XP w s₀ mg mb s₁.heap → YP w s₁.heap →
      s₁.heap.get? fa = some o → o.data = .func (docDef d.name d.params d.body d.scope pm cd doc) → s₁.heap.CodeRec cd d.name → mg d.name = some (.ref fa) →
      s₁.heap.get? a = some { cls := .type "list", data := .seq vs.toArray } → IntsAre vs ns → ns.length ≤ n →
      s.gens = #[] → s.os = s₁.os →
      Fr s₁.heap s₁.heap.objs.size s.heap (bindL (envOfC d.name d.scope s₁.heap.objs.size fa cd).kindOf [(x, .ref a)] fun _ => none) →
      Cl s₁.heap.objs.size (cellsFrom (s₁.heap.objs.size + 1) d.scope.names []) s.heap (bindC (envOfC d.name d.scope s₁.heap.objs.size fa cd).kindOf [(x, .ref a)] fun _ => none) →
      wpAny (model l.prog w) (callerA.deeper (envOfC d.name d.scope s₁.heap.objs.size fa cd)) (execs d.body (envOfC d.name d.scope s₁.heap.objs.size fa cd))
        (fun f s' => f = .ret (.bool true) ∧ (∀ b o, s₁.heap.get? b = some o → s'.heap.get? b = some o) ∧ s'.os = s₁.os ∧ s'.gens = #[]) (fun _ _ => False) s) :
    WalkN q loose XP YP l.row.toRowW d [] (fun f vs => PySem.call f vs) := by
  intro w s₀ s₁ mg mb G Y fa o pm cd doc dV kV ho hd hcd hD hmg hg args vals as hpre hlay hrd hwl hlo
  obtain rfl : dV = .none := Dflts.none hD hdf
  obtain rfl : kV = .none := Dflts.noKw hD
  obtain ⟨a, vs, ns, rfl, rfl, hobj, hints, hlen⟩ := script_of hn hpre hwl
  refine enter_callW ?_
  refine call_cells_ret (o := o) (by rw [depth_caller]; decide) ho (fd_plain hd) G.T.nolimit hcd (hbind pm cd doc (.ref a)) (fun y hy => ?_) (fun h₁ tk F X => ?_) hco hgen hk
  · obtain rfl : y = (x, Value.ref a) := List.mem_singleton.mp hy
    rcases hx with e | e
    · exact .inl e
    · exact .inr ⟨e, cellsFrom_some _ _ _ (.inl e)⟩
  · refine wpAny_mono (body w s₀ s₁ { s₁ with heap := h₁, toks := tk } mg mb fa o pm cd doc a vs ns G Y ho (fd_plain hd) hcd hmg hobj hints hlen hg rfl F X) (fun f s' hq => ?_) (fun _ _ hq => hq)
    obtain ⟨rfl, h2, h3, h4⟩ := hq
    exact ⟨.inl ⟨.bool true, .bool true, [], rfl, fun _ => rfl, .bool true, post_true l _, fun _ => ⟨List.Pairwise.nil, fun _ hm => (nomatch hm)⟩⟩, h2, h3, h4⟩

/-! ### rules over ANY heap (no ledger) from facts about the written part K: the library's own take a ledger (News) for what they write -/
section
variable {prog : Program} {w : World} {A : Around} {E : Value → Shared → Prop} {s : Shared} {K : Frag}

/-- a def of the module, or a method (qual 'C.m'), entered: the frame is the next address; cells behind it -/
theorem call_fn {R : Result → Shared → Prop} {name qual : Str} {params : Arguments} {body : List Stmt} {scope : Scope} {dV kV doc pm cdv ct oc : Value} {an od : Option Addr} {osl : Array (Option Value)} {f : Addr} {args : Args} {binds : List (Str × Value)}
    (X : K.In s.heap) (hlim : s.heap.NoLimit) (ho : K.lookup f = some ⟨oc, od, .func (fnOf name qual params body scope dV kV doc pm an cdv ct), osl⟩) (hcd : codeIn K cdv qual = true) (hroom : A.depth < recursionLimit)
    (hbind : BindsTo s (fnOf name qual params body scope dV kV doc pm an cdv ct) args binds)
    (hkind : (binds.all fun y => scope.names.lookup y.1 == some .local || scope.names.lookup y.1 == some .cell) = true)
    (h : ∀ s₁, InCallC s s.heap.objs.size (bindL (envOfC qual scope s.heap.objs.size f cdv).kindOf binds fun _ => none) (cellsFrom (s.heap.objs.size + 1) scope.names [])
        (bindC (envOfC qual scope s.heap.objs.size f cdv).kindOf binds fun _ => none) s₁ →
      wpAny (model prog w) (A.deeper (envOfC qual scope s.heap.objs.size f cdv)) (execs body (envOfC qual scope s.heap.objs.size f cdv))
        (fun fl s' => R (.ok (.ret (match fl with | .ret v => v | _ => .none))) s')
        (fun e s' => wpAny (model prog w) (A.deeper (envOfC qual scope s.heap.objs.size f cdv)) (leaving (envOfC qual scope s.heap.objs.size f cdv) e) (fun _ s'' => R (.error e) s'') (fun e' s'' => R (.error e') s'') s') s₁)
    (hco : scope.isCoroutine = false) (hgen : scope.isGenerator = false) (hk : scope.kind = .function) : codeAny (model prog w) A (.call (.ref f) args) R s := by
  refine codeAny_call_function hroom (X _ _ ho) rfl hco hgen rfl (codeRec_of X hcd) (hbind _ _ _ _ ?_)
  refine wpAny_newFunctionEnv_cells hk (kindsX hkind _) fun env he s₁ x => ?_
  subst he
  exact ⟨hlim.keeps x.toInCall.keep, codeAny_func (h s₁ x)⟩

/-- C(..): dict at size, instance at size + 1, then __init__ -/
theorem make_obj {R : Result → Shared → Prop} {C fI : Addr} {rest : List Value} {kw : List (Str × Value)}
    (X : K.In s.heap) (hm : makesIn K C = true) (hi : findIn K (.ref C) "__init__" = some (some (.ref fI))) (hf : isFn K (.ref fI) = true)
    (h : codeAny (model prog w) (A.under (.builtin "type.__call__" ⟨.ref C :: rest, kw⟩)) (.call (.ref fI) ⟨.ref (s.heap.objs.size + 1) :: rest, kw⟩) (InitBack (s.heap.objs.size + 1) R)
      { s with heap := (s.heap.push emptyDict).push (instObj C s.heap.objs.size) }) : codeAny (model prog w) A (.call (.ref C) ⟨rest, kw⟩) R s := by
  obtain ⟨hh, g, d, t, os⟩ := s
  exact make_core (makes_of X hm) (looks_findIn X hi) (fun self => bind_fn X self (beq_iff_eq.mp hf)) (.inl rfl) h

/-- x.name where the instance's dict holds the name and the class does not -/
theorem get_field {x C : Addr} {ox : Obj} {es : List DictEntry} {n : Nat} {name : Str} {expr : Bool} {v : Value} {Q : Value → Shared → Prop}
    (X : K.In s.heap) (I : PySem.W.InstAt s.heap x ox C (some (dictOf es n))) (hg : plainGet K C name = true) (hh : hasDictIn K C = true) (ha : findIn K (.ref C) name = some none)
    (hl : getL name es = some (some v)) (hv : handedIn v = true) (h : Q v { s with toks := s.toks + 1 }) : wpAny (model prog w) A (getAttr (.ref x) name expr) Q E s :=
  get_value X I (plainGet_of hg).1 (findObj_own hh ha rfl hl) hv h

/-- x.m(..): the method found in the class -/
theorem get_method {x C f : Addr} {ox : Obj} {es : List DictEntry} {n : Nat} {name : Str} {pl : Sem Bool} {Q : Value × List Value → Shared → Prop}
    (X : K.In s.heap) (I : PySem.W.InstAt s.heap x ox C (some (dictOf es n))) (hg : plainGet K C name = true) (hf : findIn K (.ref C) name = some (some (.ref f))) (ht : isFn K (.ref f) = true)
    (hl : getL name es = some none) (h : Q (.ref f, [.ref x]) s) : wpAny (model prog w) A (getMethod (.ref x) name pl) Q E s :=
  method_fn X I (plainGet_of hg).1 (plainGet_of hg).2 hf (beq_iff_eq.mp ht) (by show (lookIn name (dictOf es n)).map _ = _; rw [lookIn_dict, hl]; rfl) h

/-! the whole heap as the ledger: makes every rule that writes through a ledger a rule over any heap -/
def noObjs (h : Heap) : Heap := { h with objs := #[] }
theorem noObjs_get (h : Heap) (b : Addr) : (noObjs h).get? b = none := by
  cases e : (noObjs h).get? b with
  | none => rfl
  | some o => exact absurd (Heap.lt_size e) (Nat.not_lt_zero _)
def ledger (h : Heap) (L d : Addr) : List (Addr × Obj) := (List.range h.objs.size).filterMap fun a => if a = L ∨ a = d then none else (h.get? a).map fun o => (a, o)
theorem mem_ledger {h : Heap} {L d a : Addr} {o : Obj} : (a, o) ∈ ledger h L d ↔ a ≠ L ∧ a ≠ d ∧ h.get? a = some o := by
  unfold ledger
  rw [List.mem_filterMap]
  constructor
  · rintro ⟨b, _, e⟩
    split at e
    · cases e
    · rename_i hb
      obtain ⟨o', ho, e'⟩ := Option.map_eq_some_iff.mp e
      cases e'
      exact ⟨fun q => hb (.inl q), fun q => hb (.inr q), ho⟩
  · rintro ⟨n1, n2, ho⟩
    refine ⟨a, List.mem_range.mpr (Heap.lt_size ho), ?_⟩
    rw [if_neg (show ¬ (a = L ∨ a = d) from fun q => q.elim n1 n2), ho] <;> rfl
theorem news_ledger {h : Heap} {L d : Addr} {od : Obj} (hne : d ≠ L) (ho : h.get? d = some od) : News (noObjs h) L h ([] ++ (d, od) :: ledger h L d) := by
  rintro ⟨a, o⟩ hp
  rcases List.mem_cons.mp hp with e | hp
  · cases e
    exact ⟨ho, hne, noObjs_get _ _⟩
  · obtain ⟨n1, n2, e⟩ := mem_ledger.mp hp
    exact ⟨e, n1, noObjs_get _ _⟩
theorem fr_all {h : Heap} {L : Addr} {m : Str → Option Value} (n : h.Ns L m) : Fr (noObjs h) L h m :=
  ⟨n, fun b o e => (by rw [noObjs_get] at e; cases e), Nat.zero_le _⟩
/-- Upd of the head entry (for append_K, setItem_K ..) -/
theorem upd_ledger {h : Heap} {L d : Addr} {o o' : Obj} : Upd d o o' ((d, o) :: ledger h L d) ((d, o') :: ledger h L d) :=
  .head fun ⟨_, _⟩ hp => (mem_ledger.mp hp).2.1

/-- x.name = v over any heap: L is any namespace of the heap (the frame's, say): its map stays, its object is not told; all else but the dict stays -/
theorem set_field {x C dx L : Addr} {ox : Obj} {m : Str → Option Value} {es es' : List DictEntry} {n n' : Nat} {name : Str} {v : Value} {Q : Unit → Shared → Prop}
    (X : K.In s.heap) (I : PySem.W.InstAt s.heap x ox C (some (dictOf es n))) (hd : ox.dict = some dx) (hL : s.heap.Ns L m) (hne : dx ≠ L)
    (hs : findIn K (.ref C) "__setattr__" = some (some (.builtin "object.__setattr__"))) (hp : plainOver K C = true) (ht : takerIn K C name = some none) (hh : hasDictIn K C = true) (hl : (getL name es).isSome = true)
    (e : (putL name (PyData.keyHash w.params name) (.str name (s.toks + 1)) v es, putN name es n) = (es', n')) (hz : es'.length ≤ 1000)
    (h : ∀ h' : Heap, h'.Ns L m → h'.get? dx = some (dictOf es' n') → (∀ b o, b ≠ dx → b ≠ L → s.heap.get? b = some o → h'.get? b = some o) → Q () { s with heap := h', toks := s.toks + 2 }) :
    wpAny (model prog w) A (setAttr (.ref x) name v) Q E s := by
  obtain ⟨e1, e2⟩ := Prod.mk.inj e
  have hdx : s.heap.get? dx = some (dictOf es n) := by
    have := I.dict
    rw [hd] at this
    exact this
  refine set_plain X I hs (osa_dict (s := { s with toks := s.toks + 1 }) (h₀ := noObjs s.heap) (L := L) (m := m) (od := dictOf es n) (od' := dictOf es' n') (es := es') (n := n') (pre := []) (post := ledger s.heap L dx)
    (fr_all hL) (news_ledger hne hdx) X I hd hp ht hh hl (fun _ q => nomatch q) (fun ⟨_, _⟩ q => (mem_ledger.mp q).2.1) (by rw [putName_dict, e1, e2]) rfl hz fun h' F' N' => ?_)
  exact h h' F'.ns (N'.get (List.Mem.head _)) fun b o n1 n2 ho => N'.get (List.Mem.tail _ (mem_ledger.mpr ⟨n2, n1, ho⟩))
end
end Att

namespace L2
open PySem PySem.Spec PyProof.Rows

theorem vals_ints : ∀ {vs : List Value} {ns : List Int}, IntsAre vs ns → Vals (ns.map V.int) vs
  | _, _, .nil => .nil
  | _, _, .cons n t h => .cons ⟨t, rfl⟩ (vals_ints h)

/-- nothing is tracked but the script, known to the object (or it is an object of the module) -/
def Only (H : Hp) : Prop := ∀ b, H b = none ∨ ∃ o xs, H b = some (.frz o (.lst xs))

/-- THE HEAD: the law's promise, at the heap behind the top. F, the promise of the law's def, may use that base is part of the heap (so K.In base, base.Ns mainGlobals mg stand in Mod) -/
theorem law_call {P : Program} {w : World} {K : PySem.W.Frag} {mg mb : Str → Option Value} {CX : CXT} {k : Nat} {fa a : Addr} {fd : FuncData} {x : Str} {sp : Sp} {s₁ : Shared} {vs : List Value} {ns : List Int}
    (KX : K.In s₁.heap) (hns : s₁.heap.Ns mainGlobals mg) (hb : s₁.heap.Ns builtinsNs mb) (hbb : ∀ x : Str, x ≠ "__name__" → mb x = bootBuiltins x) (hlim : s₁.heap.NoLimit) (hg : s₁.gens = #[])
    (ha : s₁.heap.get? a = some { cls := .type "list", data := .seq vs.toArray }) (hi : IntsAre vs ns) (hl : ns.length ≤ sizeLine) (hr : Room k callerA)
    (F : ∀ base : Heap, K.In base → base.Ns mainGlobals mg → FnOk P w K mg base CX k fa fd [x] sp) (hbind : ∀ (s : Shared) (u : Value), BindsTo s fd ⟨[u], []⟩ [(x, u)])
    (hsp : ∀ H : Hp, Only H → SqL K H a (ns.map V.int) → sp [.ref a] H (fun v _ => v = .bl true) fun _ _ _ => False)
    (hCX : ∀ H e s', CX [] H s₁ (fun _ _ _ => False) e s' → False) :
    codeAny (model P w) callerA (.call (.ref fa) ⟨[.ref a], []⟩) (fun r s' => r = .ok (.ret (.bool true)) ∧ OldK s₁.heap s'.heap ∧ s'.os = s₁.os ∧ AllBare s'.gens) s₁ := by
  have rv := vals_ints hi
  have lenV := hi.length
  -- from an abstract heap in which nothing but the script may be tracked
  have core : ∀ H : Hp, Only H → SqL K H a (ns.map V.int) → HOk P w H s₁.heap → (∀ b, H b ≠ none → b = a) → (H a ≠ none → K.lookup a = none) →
      codeAny (model P w) callerA (.call (.ref fa) ⟨[.ref a], []⟩) (fun r s' => r = .ok (.ret (.bool true)) ∧ OldK s₁.heap s'.heap ∧ s'.os = s₁.os ∧ AllBare s'.gens) s₁ := by
    intro H hO hS hok hA hK
    have base_of : ∀ {b : Addr} {o : Obj}, s₁.heap.get? b = some o → H b = none → (hidT s₁.heap H).get? b = some o := fun e n => hidT_get e n
    have noA : ∀ {b : Addr} {o : Obj} {es : Array DictEntry} {ep : Nat}, s₁.heap.get? b = some o → o.data = .dict es ep → H b = none := fun {b o es ep} e d => by
      cases q : H b with
      | none => rfl
      | some u =>
        have e' : b = a := hA b (by rw [q]; simp)
        subst e'
        rw [ha] at e; cases e
        have d' : Data.seq vs.toArray _ = Data.dict es ep := d
        cases d'
    have nsK : ∀ {b : Addr} {m : Str → Option Value}, s₁.heap.Ns b m → (hidT s₁.heap H).Ns b m := fun {b m} ⟨o, es, ep, e, d, r⟩ => ⟨o, es, ep, base_of e (noA e d), d, r⟩
    have hKb : K.In (hidT s₁.heap H) := fun b o e => base_of (KX b o e) (by
      cases q : H b with
      | none => rfl
      | some u =>
        have e' : b = a := hA b (by rw [q]; simp)
        subst e'
        rw [hK (by rw [q]; simp)] at e; cases e)
    have hM : Mod K mg (hidT s₁.heap H) := ⟨hKb, nsK hns, ⟨mb, nsK hb, hbb⟩, let ⟨mc, h1, h2⟩ := hlim; ⟨mc, nsK h1, h2⟩⟩
    have e0 : Env0 P w K mg (hidT s₁.heap H) callerA [] s₁ H := ⟨rfl, hM, fun b o e => of_hidT e, Nat.le_of_eq (hidT_size _ _), trivial, fun b hb => absurd (show b ∈ ([] : List Addr) from hb) (by simp), hok, .of_eq hg⟩
    refine codeAny_mono ((F _ hKb (nsK hns)).run callerA [] s₁ H ⟨[.ref a], []⟩ [.ref a] [.ref a] _ _ hr e0 (hbind s₁ (.ref a)) (.cons rfl .nil) (hsp H hO hS)) fun r s' h => ?_
    cases r with
    | error e => exact (hCX H e s' h).elim
    | ok fl =>
      cases fl with
      | next => exact False.elim h
      | brk => exact False.elim h
      | cont => exact False.elim h
      | ret u =>
        obtain ⟨v, H', os, bare, un, hok', r', q⟩ := h
        have q' : v = .bl true := q
        subst q'
        obtain rfl : u = Value.bool true := r'
        refine ⟨rfl, OldK.of_keep fun b o e => ?_, os, bare⟩
        cases q : H b with
        | none => exact un.keep b o e q (by intro z; exact absurd (show b ∈ ([] : List Addr) from z) (by simp)) (by simp)
        | some u =>
          rcases hO b with z | ⟨ob, xs, z⟩
          · rw [q] at z; cases z
          · have z2 := un.frzs b ob _ z
            obtain ⟨e1, _⟩ := hok b _ z
            obtain ⟨e2, _⟩ := hok' b _ z2
            rw [e] at e1; cases e1
            exact e2
  cases hk : K.lookup a with
  | some o =>
    -- the script is one of the module's own objects
    have e := KX a o hk
    rw [ha] at e
    cases e
    refine core (fun _ => none) (fun _ => .inl rfl) (.inr ⟨_, vs.toArray, _, hk, rfl, rfl, rfl, by rw [List.size_toArray, lenV]; exact hl, by simpa using rv⟩) (fun b u z => by have z' : (none : Option HO) = some u := z; cases z') (fun b z => absurd rfl z) fun z => absurd rfl z
  | none =>
    refine core (fun b => if b = a then some (.frz { cls := .type "list", data := .seq vs.toArray } (.lst (ns.map V.int))) else none) (fun b => ?_) (.inl (.inr ⟨{ cls := .type "list", data := .seq vs.toArray }, if_pos rfl⟩)) (fun b u z => ?_) (fun b z => ?_) fun _ => hk
    · by_cases hb : b = a
      · exact .inr ⟨_, _, if_pos hb⟩
      · exact .inl (if_neg hb)
    · by_cases hb : b = a
      · have z' := (if_pos hb).symm.trans z
        cases z'
        subst hb
        exact ⟨ha, by rw [List.length_map]; exact hl, vs, _, rv, ha⟩
      · have z' := (if_neg hb).symm.trans z
        cases z'
    · by_cases hb : b = a
      · exact hb
      · exact absurd (if_neg hb) z
end L2

namespace L2
open PySem PySem.Spec PyProof.Rows

abbrev KOf {K : PySem.W.Frag} {h : Heap} (_ : K.In h) : PySem.W.Frag := K

/-- the goal that k_head leaves (case hc), from the law's promise. F gives the function object fd (K's own) once, then the promise over every base -/
theorem walk_of {l : PySem.W.OpenLaw} {n k : Nat} {q : Program} {loose : List Str} {XP : (Str → Option Value) → Heap → Prop} {YP : World → Heap → Prop} {d : DefRec} {K : Params → PySem.W.Frag} {CX : World → CXT} {sp : World → Sp} {x : Str}
    (hn : l.most = some n) (hn2 : n ≤ sizeLine) (hdf : d.params.defaults = []) (hr : Room k callerA)
    (hY : ∀ (w : World) (h : Heap), YP w h → (K w.params).In h)
    (F : ∀ (w : World) (mg : Str → Option Value) (fa : Addr) (h : Heap), (K w.params).In h → h.Ns mainGlobals mg → mg d.name = some (.ref fa) →
      ∃ fd : FuncData, (∀ (s : Shared) (u : Value), BindsTo s fd ⟨[u], []⟩ [(x, u)]) ∧
        ∀ base : Heap, (K w.params).In base → base.Ns mainGlobals mg → FnOk l.prog w (K w.params) mg base (CX w) k fa fd [x] (sp w))
    (hsp : ∀ (w : World) (H : Hp) (a : Addr) (ns : List Int), ns.length ≤ n → Only H → SqL (K w.params) H a (ns.map V.int) → sp w [.ref a] H (fun v _ => v = .bl true) fun _ _ _ => False)
    (hCX : ∀ (w : World) (H : Hp) (s : Shared) (e : Value) (s' : Shared), CX w [] H s (fun _ _ _ => False) e s' → False) :
    PySem.W.WalkO q loose XP YP l.row.toRowW d [] (fun f vs => PySem.call f vs) := by
  refine Att.attach_call hn hdf fun w s₀ s₁ mg mb fa o pm cd doc a vs ns G Y ho hd hcd hmg hobj hints hlen hg => ?_
  have KX := hY w _ Y
  obtain ⟨fd, hb, hF⟩ := F w mg fa _ KX G.T.g hmg
  exact law_call KX G.T.g G.T.b G.T.builtins G.T.nolimit hg hobj hints (Nat.le_trans hlen hn2) hr hF hb (fun H hO hS => hsp w H a ns hlen hO hS) fun H e s' => hCX w H s₁ e s'
/-- the same where the promise hangs on the written part alone: (sp := My.sp_law), no hole under a binder -/
theorem walk_ofK {l : PySem.W.OpenLaw} {n k : Nat} {q : Program} {loose : List Str} {XP : (Str → Option Value) → Heap → Prop} {YP : World → Heap → Prop} {d : DefRec} {K : Params → PySem.W.Frag} {CX : CXT} {sp : PySem.W.Frag → Sp} {x : Str}
    (hn : l.most = some n) (hn2 : n ≤ sizeLine) (hdf : d.params.defaults = []) (hr : Room k callerA)
    (hY : ∀ (w : World) (h : Heap), YP w h → (K w.params).In h)
    (F : ∀ (w : World) (mg : Str → Option Value) (fa : Addr) (h : Heap), (K w.params).In h → h.Ns mainGlobals mg → mg d.name = some (.ref fa) →
      ∃ fd : FuncData, (∀ (s : Shared) (u : Value), BindsTo s fd ⟨[u], []⟩ [(x, u)]) ∧
        ∀ base : Heap, (K w.params).In base → base.Ns mainGlobals mg → FnOk l.prog w (K w.params) mg base CX k fa fd [x] (sp (K w.params)))
    (hsp : ∀ (K : PySem.W.Frag) (H : Hp) (a : Addr) (ns : List Int), ns.length ≤ n → Only H → SqL K H a (ns.map V.int) → sp K [.ref a] H (fun v _ => v = .bl true) fun _ _ _ => False)
    (hCX : ∀ (H : Hp) (s : Shared) (e : Value) (s' : Shared), CX [] H s (fun _ _ _ => False) e s' → False) :
    PySem.W.WalkO q loose XP YP l.row.toRowW d [] (fun f vs => PySem.call f vs) :=
  walk_of (K := K) (CX := fun _ => CX) (sp := fun w => sp (K w.params)) hn hn2 hdf hr hY F (fun w H a ns h1 h2 h3 => hsp (K w.params) H a ns h1 h2 h3) fun _ H s e s' => hCX H s e s'
end L2

/- THE LAST THEOREM (shape; LID, My.* are yours):
   My.Adr: a structure of the addresses that your layer names (classes, functions); My.Txt K t: a structure (Prop) of the equations over K;
   My.txt_mk : {K} {implicit addresses ..} (e1 : nsIn K mainGlobals "law" = some (some (.ref f))) (e2 : K.lookup f = some ⟨oc, od, .func (fnOf "law" "law" params body scope dV kV doc pm an cdv ct), sl⟩) (e3 : codeIn K cdv "law" = true) .. : ∃ t, My.Txt K t

set_option maxRecDepth 100000 in
set_option maxHeartbeats 0 in
theorem PySem.Challenge.cw_LID_holds : PySem.Challenge.rw_LID.Holds := by
  w_on; o_law; k_head; (case hw => w_witness2)
  k_fill
  refine L2.walk_of (l := PySem.Challenge.rw_LID) (n := 63) (k := 40) (x := "script") (CX := fun w => ..) (sp := fun _ => My.sp_law) rfl (by decide) rfl ⟨rfl, by decide, by decide⟩ (fun w h Y => PySem.W.kIn_of Y) ?F ?S ?C
  case F =>
    intro w mg fa h KX G hmg
    have T : ∃ t, My.Txt (L2.KOf KX) t := by
      dsimp only [L2.KOf]                          -- K must stand as «<heap const> w.params» for k_is
      refine' My.txt_mk ?e1 ?e2 ?e3 ..
      (case e1 => PySem.W.k_is)                    -- in the order: a name -> its address -> its object -> its parts
      (case e2 => PySem.W.k_is)
      ..
    obtain ⟨t, T⟩ := T
    have e0 := hmg.symm.trans (PySem.W.mg_of KX G T.law)
    cases e0                                       -- fa is the law's own address
    exact ⟨_, fun s u => .of_eq rfl, fun base kb nb => My.law_fn T kb nb⟩     -- if «.of_eq rfl» comes too early: refine' ⟨_, ?b, fun base kb nb => My.law_fn T kb nb⟩; exact fun s u => .of_eq rfl
  case S => exact fun w H a ns hl hO hS => ..
  case C => exact ..
(the tactic k_is has no namespace: write k_is) -/

/-! SHORT WORDS over the layer: a def of the text, its body, what a loop and a test want. -/
namespace L2
open PySem PySem.Spec PyProof.Rows

/-! ### the text by places -/
/-- the j-th statement of a class's body -/
def inClass (s : Stmt) (j : Nat) : Stmt := match s with
  | .ClassDef _ _ _ body _ _ _ _ _ _ _ => body.getD j (.Pass ⟨0, 0, 0, 0⟩)
  | _ => .Pass ⟨0, 0, 0, 0⟩
def defArgs (s : Stmt) : Arguments := match s with
  | .FunctionDef _ a _ _ _ _ _ _ _ _ => a
  | _ => { posonlyargs := [], args := [], vararg := none, kwonlyargs := [], kw_defaults := [], kwarg := none, defaults := [] }
def defBody (s : Stmt) : List Stmt := match s with
  | .FunctionDef _ _ b _ _ _ _ _ _ _ => b
  | _ => []
def defScope (s : Stmt) : Scope := match s with
  | .FunctionDef _ _ _ _ _ _ sc _ _ _ => sc
  | _ => { kind := .function, names := [], isGenerator := false, isCoroutine := false }

/-! ### no exception leaves a def -/
abbrev CX0 : CXT := fun _ _ _ _ _ _ => False
abbrev E0 : XK := fun _ _ _ => False
theorem pass0 {X : Cx} : Passes CX0 X E0 := fun _ _ _ _ _ _ _ h => h.elim

/-! ### a def (or method) of the text as it stands behind the top -/
structure Fun (K : PySem.W.Frag) (x qual : Str) (st : Stmt) (f : Addr) (fd : FuncData) : Prop where
  ex : ∃ (oc : Value) (od : Option Addr) (kV doc pm : Value) (an : Option Addr) (cdv ct : Value) (osl : Array (Option Value)),
    fd = PySem.W.fnOf x qual (defArgs st) (defBody st) (defScope st) .none kV doc pm an cdv ct ∧ K.lookup f = some ⟨oc, od, .func fd, osl⟩ ∧ PySem.W.codeIn K cdv qual = true
  kp : PySem.W.keepIn K (.ref f) = true
section
variable {P : Program} {w : World} {K : PySem.W.Frag} {mg : Str → Option Value} {base : Heap}
/-- THE RULE for a def: its body as a term of rules, and the reading of that term -/
theorem Fun.ok {x qual : Str} {st : Stmt} {f : Addr} {fd : FuncData} {N ps : List Str} {k : Nat} {sp : Sp} (F : Fun K x qual st f fd) (S : FnScope N ps (defScope st)) (len : ∀ vs H Q E, sp vs H Q E → vs.length = ps.length)
    (hbody : ∀ (cdv : Value) (A : Around) (outer : List Env) (s : Shared) (H : Hp) (vs : List V) (Q : VK) (E : XK), Room k (A.deeper (envOfC qual (defScope st) s.heap.objs.size f cdv)) → sp vs H Q E →
      ∃ t, PSs (cxOf CX0 P w K mg base N qual (defScope st) f cdv A outer s H E).nox (defBody st) t ∧ t { nx := fun _ H' => Q .non H', rt := Q } (start N vs) H) : FnOk P w K mg base CX0 (k + 1) f fd ps sp := by
  obtain ⟨oc, od, kV, doc, pm, an, cdv, ct, osl, rfl, lk, hcd⟩ := F.ex
  refine fn_of lk hcd S len fun A outer s H vs Q E hr hsp => ?_
  obtain ⟨t, h, q⟩ := hbody cdv A outer s H vs Q E hr hsp
  exact ⟨t, h.nox, q⟩
/-- how its arguments bind (no defaults): h is «fun _ _ _ _ _ _ us hl => match us, hl with | [_, _], _ => rfl», one _ a parameter -/
theorem Fun.binds {x qual : Str} {st : Stmt} {f : Addr} {fd : FuncData} {ps : List Str} (F : Fun K x qual st f fd)
    (h : ∀ (kV doc pm : Value) (an : Option Addr) (cdv ct : Value) (us : List Value), us.length = ps.length → bindArgs (PySem.W.fnOf x qual (defArgs st) (defBody st) (defScope st) .none kV doc pm an cdv ct) ⟨us, []⟩ = pure (ps.zip us)) : Binds K fd ps [] := by
  obtain ⟨oc, od, kV, doc, pm, an, cdv, ct, osl, rfl, lk, hcd⟩ := F.ex
  exact .all (h kV doc pm an cdv ct)
theorem fun_mk {x qual : Str} {st : Stmt} {f : Addr} {oc : Value} {od an : Option Addr} {osl : Array (Option Value)} {kV doc pm cdv ct : Value} (l : K.lookup f = some ⟨oc, od, .func (PySem.W.fnOf x qual (defArgs st) (defBody st) (defScope st) .none kV doc pm an cdv ct), osl⟩)
    (c : PySem.W.codeIn K cdv qual = true) (k : PySem.W.keepIn K (.ref f) = true) : Fun K x qual st f (PySem.W.fnOf x qual (defArgs st) (defBody st) (defScope st) .none kV doc pm an cdv ct) := ⟨⟨oc, od, kV, doc, pm, an, cdv, ct, osl, rfl, l, c⟩, k⟩
end
theorem hu_of {A : Around} {k : Nat} (hr : Room k A) : A.units + 1 < cLine := Nat.lt_of_le_of_lt (Nat.add_le_add_left (by decide : 1 ≤ 64) _) hr.units
theorem small1000 {n : Nat} (h : n ≤ 1000) : n < sizeLine := Nat.lt_of_le_of_lt h (by decide)

/-! ### expressions in short: the name that stands in the i-th slot -/
section
variable {X : Cx}
theorem pv (i : Nat) {x : Str} {pos : Pos} (hN : X.N[i]? = some x := by rfl) (hv : Vis X.env.scope x := by first | exact Or.inl rfl | exact Or.inr (Or.inl rfl) | exact Or.inr (Or.inr rfl)) (hd : (x == ("__debug__" : Str)) = false := by decide)
    (hcd : (x == ("__classdict__" : Str)) = false := by decide) : PE X (.Name x pos) (tVar i) := pe_var hN hv hd hcd
end

/-! ### tests -/
theorem iteF {A B : Prop} (h : B) : if false = true then A else B := by
  rw [if_neg Bool.false_ne_true]
  exact h
theorem iteT {A B : Prop} (h : A) : if true = true then A else B := by
  rw [if_pos rfl]
  exact h
theorem ite2 {c A B : Prop} [Decidable c] (h1 : c → A) (h2 : ¬ c → B) : if c then A else B := by
  by_cases h : c
  · rw [if_pos h]
    exact h1 h
  · rw [if_neg h]
    exact h2 h
theorem iteNS {c A B : Prop} [Decidable c] (hc : c) (h : B) : if (!decide c) = true then A else B := by
  rw [decide_eq_true hc]
  exact iteF h

/-! ### heaps -/
/-- all that was tracked is as it was -/
def Same (H H' : Hp) : Prop := ∀ b o, H b = some o → H' b = some o
theorem Same.refl (H : Hp) : Same H H := fun _ _ h => h
theorem Same.trans {H H1 H2 : Hp} (a : Same H H1) (b : Same H1 H2) : Same H H2 := fun c o h => b c o (a c o h)
theorem Same.free {H H' : Hp} (e : Same H H') {l : Addr} (h : H' l = Option.none) : H l = Option.none := by
  cases q : H l with
  | none => rfl
  | some o =>
    rw [e l o q] at h
    cases h
theorem Same.seq {K : PySem.W.Frag} {H H' : Hp} {a : Addr} {xs : List V} (e : Same H H') (h : SqL K H a xs) : SqL K H' a xs := by
  rcases h with (h | ⟨o, h⟩) | h
  · exact .inl (.inl (e _ _ h))
  · exact .inl (.inr ⟨o, e _ _ h⟩)
  · exact .inr h

end L2

set_option maxHeartbeats 4000000
set_option autoImplicit false
set_option linter.all false
namespace Fb
/-- a job: its end, its fine -/
abbrev Job := Int × Int

/-- not too many end by any tick -/
def Feas (S : List Job) : Prop := ∀ t : Nat, S.countP (fun j => decide (j.1 ≤ (t : Int))) ≤ t
/-- what is taken, what is left, and why -/
structure Cert (acc rej : List Job) : Prop where
  feas : Feas acc
  why : ∀ r ∈ rej, ∃ t : Nat, r.1 ≤ (t : Int) ∧ t ≤ acc.countP (fun j => decide (j.1 ≤ (t : Int)) && decide (r.2 ≤ j.2))
def cap (J : List Job) (θ : Int) (m : Nat) : Nat := m + J.countP (fun j => decide ((m : Int) < j.1) && decide (θ < j.2))
def ov (J : List Job) (θ : Int) : Nat := J.countP (fun j => decide (θ < j.2))
def sumF (J : List Job) : Int := (J.map (·.2)).sum

theorem countP_split {α : Type} (p q : α → Bool) : ∀ l : List α, l.countP q = l.countP (fun x => p x && q x) + l.countP (fun x => !p x && q x)
  | [] => rfl
  | x :: l => by
    rw [List.countP_cons, List.countP_cons, List.countP_cons, countP_split p q l]
    cases p x <;> cases q x <;> simp <;> omega
theorem countP_le {α : Type} {p q : α → Bool} : ∀ {l : List α}, (∀ x ∈ l, p x = true → q x = true) → l.countP p ≤ l.countP q :=
  fun h => List.countP_mono_left h
theorem countP_zero {α : Type} {p : α → Bool} {l : List α} (h : ∀ x ∈ l, p x = false) : l.countP p = 0 := by
  rw [List.countP_eq_zero]
  intro a ha hp
  rw [h a ha] at hp
  cases hp

theorem ov_le_cap {S J : List Job} (hf : Feas S) (hs : ∀ p : Job → Bool, S.countP p ≤ J.countP p) (θ : Int) (m : Nat) : ov S θ ≤ cap J θ m := by
  unfold ov cap
  rw [countP_split (fun j : Job => decide (j.1 ≤ (m : Int)))]
  have h1 : S.countP (fun j => decide (j.1 ≤ (m : Int)) && decide (θ < j.2)) ≤ m := Nat.le_trans (countP_le fun x _ h => by simp at h; simp [h.1]) (hf m)
  have h2 : S.countP (fun j => !decide (j.1 ≤ (m : Int)) && decide (θ < j.2)) ≤ S.countP (fun j => decide ((m : Int) < j.1) && decide (θ < j.2)) := countP_le fun x _ h => by
    simp only [Bool.and_eq_true, Bool.not_eq_true', decide_eq_false_iff_not, decide_eq_true_eq] at h ⊢
    exact ⟨by omega, h.2⟩
  have h3 := hs (fun j => decide ((m : Int) < j.1) && decide (θ < j.2))
  omega

theorem Cert.tight {acc rej : List Job} (c : Cert acc rej) (θ : Int) : ∃ m : Nat, (∀ r ∈ rej, θ < r.2 → r.1 ≤ (m : Int)) ∧ m ≤ acc.countP (fun j => decide (j.1 ≤ (m : Int)) && decide (θ < j.2)) := by
  obtain ⟨hf, hw⟩ := c
  induction rej with
  | nil => exact ⟨0, fun r hr => absurd hr List.not_mem_nil, Nat.zero_le _⟩
  | cons r l ih =>
    obtain ⟨m, h1, h2⟩ := ih fun x hx => hw x (List.mem_cons_of_mem _ hx)
    by_cases hr : θ < r.2
    · obtain ⟨t, t1, t2⟩ := hw r List.mem_cons_self
      have t3 : t ≤ acc.countP (fun j => decide (j.1 ≤ (t : Int)) && decide (θ < j.2)) := Nat.le_trans t2 (countP_le fun x _ h => by
        simp only [Bool.and_eq_true, decide_eq_true_eq] at h ⊢
        exact ⟨h.1, by omega⟩)
      by_cases hmt : m ≤ t
      · refine ⟨t, fun x hx hθ => ?_, t3⟩
        rcases List.mem_cons.mp hx with rfl | hx
        · exact t1
        · have := h1 x hx hθ
          omega
      · refine ⟨m, fun x hx hθ => ?_, h2⟩
        rcases List.mem_cons.mp hx with rfl | hx
        · omega
        · exact h1 x hx hθ
    · refine ⟨m, fun x hx hθ => ?_, h2⟩
      rcases List.mem_cons.mp hx with rfl | hx
      · exact absurd hθ hr
      · exact h1 x hx hθ

theorem Cert.cap_eq {acc rej : List Job} (c : Cert acc rej) (θ : Int) : ∃ m : Nat, ov acc θ = cap (acc ++ rej) θ m := by
  obtain ⟨m, h1, h2⟩ := c.tight θ
  refine ⟨m, Nat.le_antisymm (ov_le_cap c.feas (fun p => by rw [List.countP_append]; omega) θ m) ?_⟩
  unfold ov cap
  rw [List.countP_append, countP_zero (l := rej) (fun x hx => by
    by_cases hθ : θ < x.2
    · have := h1 x hx hθ
      simp only [Bool.and_eq_false_iff, decide_eq_false_iff_not]
      exact .inl (by omega)
    · simp [hθ])]
  rw [countP_split (fun j : Job => decide (j.1 ≤ (m : Int))) (fun j : Job => decide (θ < j.2))]
  have h3 : acc.countP (fun j => decide ((m : Int) < j.1) && decide (θ < j.2)) ≤ acc.countP (fun j => !decide (j.1 ≤ (m : Int)) && decide (θ < j.2)) := countP_le fun x _ h => by
    simp only [Bool.and_eq_true, Bool.not_eq_true', decide_eq_false_iff_not, decide_eq_true_eq] at h ⊢
    exact ⟨by omega, h.2⟩
  omega

/-- layer by layer -/
theorem range_sum (x : Nat) : ∀ M : Nat, x ≤ M → ((List.range M).map (fun θ => if θ < x then 1 else 0)).sum = x := by
  intro M
  induction M with
  | zero => intro h; have : x = 0 := by omega
            subst this; rfl
  | succ M ih =>
    intro h
    rw [List.range_succ, List.map_append, List.sum_append]
    by_cases hx : x ≤ M
    · rw [ih hx]; simp; omega
    · have e : x = M + 1 := by omega
      have : (List.range M).map (fun θ => if θ < x then 1 else 0) = (List.range M).map (fun _ => 1) := by
        apply List.map_congr_left
        intro a ha
        have := List.mem_range.mp ha
        rw [if_pos (by omega)]
      rw [this]
      have e2 : ((List.range M).map (fun _ => 1)).sum = M := by
        clear ih this hx h e
        induction M with
        | zero => rfl
        | succ M ih => rw [List.range_succ, List.map_append, List.sum_append, ih]; rfl
      rw [e2, e]; simp
theorem map_add_sum {α : Type} (f g : α → Nat) : ∀ l : List α, (l.map (fun x => f x + g x)).sum = (l.map f).sum + (l.map g).sum
  | [] => rfl
  | x :: l => by
    simp only [List.map_cons, List.sum_cons, map_add_sum f g l]
    omega
theorem layers : ∀ (l : List Job) (M : Nat), (∀ j ∈ l, 0 ≤ j.2 ∧ j.2 ≤ (M : Int)) → sumF l = (((List.range M).map (fun θ : Nat => ov l (θ : Int))).sum : Nat)
  | [], M, _ => by
    have : (List.range M).map (fun θ : Nat => ov [] (θ : Int)) = (List.range M).map (fun _ => 0) := rfl
    rw [this]
    have e : ((List.range M).map (fun _ => 0)).sum = 0 := by
      induction M with
      | zero => rfl
      | succ M ih => rw [List.range_succ, List.map_append, List.sum_append, ih (fun j h => absurd h List.not_mem_nil) rfl]; rfl
    rw [e]; rfl
  | j :: l, M, h => by
    have ih := layers l M fun x hx => h x (List.mem_cons_of_mem _ hx)
    obtain ⟨h0, h1⟩ := h j List.mem_cons_self
    obtain ⟨x, hx⟩ : ∃ x : Nat, j.2 = (x : Int) := ⟨j.2.toNat, by omega⟩
    have e : (List.range M).map (fun θ : Nat => ov (j :: l) (θ : Int)) = (List.range M).map (fun θ : Nat => ov l (θ : Int) + if θ < x then 1 else 0) := by
      apply List.map_congr_left
      intro θ _
      unfold ov
      rw [List.countP_cons, hx]
      by_cases hθ : θ < x
      · rw [if_pos hθ, if_pos (by simp; exact hθ)]
      · rw [if_neg hθ, if_neg (by simp; omega)]
    rw [e, map_add_sum, range_sum x M (by omega)]
    unfold sumF at ih ⊢
    rw [List.map_cons, List.sum_cons, ih, hx]
    omega
theorem sum_mono {f g : Nat → Nat} : ∀ (l : List Nat), (∀ x ∈ l, f x ≤ g x) → (l.map f).sum ≤ (l.map g).sum
  | [], _ => Nat.le_refl _
  | x :: l, h => by
    have h1 := h x List.mem_cons_self
    have h2 := sum_mono l fun y hy => h y (List.mem_cons_of_mem _ hy)
    simp only [List.map_cons, List.sum_cons]
    omega
theorem bound_ex : ∀ l : List Job, ∃ M : Nat, ∀ j ∈ l, j.2 ≤ (M : Int)
  | [] => ⟨0, fun j h => absurd h List.not_mem_nil⟩
  | j :: l => by
    obtain ⟨M, h⟩ := bound_ex l
    refine ⟨M + j.2.toNat, fun x hx => ?_⟩
    rcases List.mem_cons.mp hx with rfl | hx
    · omega
    · have := h x hx
      omega
/-- more over every line is more together; with one job's fine between -/
theorem sum_le {A B D : List Job} (hA : ∀ j ∈ A, 0 ≤ j.2) (hB : ∀ j ∈ B, 0 ≤ j.2) (hD : ∀ j ∈ D, 0 ≤ j.2) (h : ∀ θ : Int, 0 ≤ θ → ov A θ ≤ ov B θ + ov D θ) : sumF A ≤ sumF B + sumF D := by
  obtain ⟨M, hM⟩ := bound_ex (A ++ B ++ D)
  have mA : ∀ j ∈ A, 0 ≤ j.2 ∧ j.2 ≤ (M : Int) := fun j hj => ⟨hA j hj, hM j (by simp [hj])⟩
  have mB : ∀ j ∈ B, 0 ≤ j.2 ∧ j.2 ≤ (M : Int) := fun j hj => ⟨hB j hj, hM j (by simp [hj])⟩
  have mD : ∀ j ∈ D, 0 ≤ j.2 ∧ j.2 ≤ (M : Int) := fun j hj => ⟨hD j hj, hM j (by simp [hj])⟩
  rw [layers A M mA, layers B M mB, layers D M mD]
  have e := sum_mono (f := fun θ => ov A (θ : Int)) (g := fun θ => ov B (θ : Int) + ov D (θ : Int)) (List.range M) fun θ _ => h θ (by omega)
  rw [map_add_sum] at e
  omega
theorem sumF_nil : sumF [] = 0 := rfl
theorem sumF_append (A B : List Job) : sumF (A ++ B) = sumF A + sumF B := by
  unfold sumF; rw [List.map_append, List.sum_append]
theorem perm_sum {A B : List Int} (h : A.Perm B) : A.sum = B.sum := by
  induction h with
  | nil => rfl
  | cons x _ ih => rw [List.sum_cons, List.sum_cons, ih]
  | swap x y l => simp only [List.sum_cons]; omega
  | trans _ _ a b => exact a.trans b
theorem sumF_perm {A B : List Job} (h : A.Perm B) : sumF A = sumF B := perm_sum (h.map _)
theorem ov_nil (θ : Int) : ov [] θ = 0 := rfl

def Good (J : List Job) : Prop := ∀ j ∈ J, 1 ≤ j.1 ∧ 0 ≤ j.2

/-- THE COMPARISON -/
theorem Cert.le {acc rej acc' rej' D : List Job} (c : Cert acc rej) (c' : Cert acc' rej') (g : Good (acc ++ rej)) (g' : Good (acc' ++ rej')) (hD : ∀ j ∈ D, 0 ≤ j.2)
    (h : ∀ θ m, 0 ≤ θ → cap (acc ++ rej) θ m ≤ cap (acc' ++ rej') θ m + ov D θ) : sumF acc ≤ sumF acc' + sumF D := by
  refine sum_le (fun j hj => (g j (by simp [hj])).2) (fun j hj => (g' j (by simp [hj])).2) hD fun θ hθ => ?_
  obtain ⟨m, e⟩ := c'.cap_eq θ
  have h1 := ov_le_cap (J := acc ++ rej) c.feas (fun p => by rw [List.countP_append]; omega) θ m
  have h2 := h θ m hθ
  omega
theorem cap_perm {J J' : List Job} (h : J.Perm J') (θ : Int) (m : Nat) : cap J θ m = cap J' θ m := by
  unfold cap; rw [h.countP_eq]
theorem Cert.same {acc rej acc' rej' : List Job} (c : Cert acc rej) (c' : Cert acc' rej') (g : Good (acc ++ rej)) (hp : (acc ++ rej).Perm (acc' ++ rej')) : sumF acc = sumF acc' ∧ sumF rej = sumF rej' := by
  have g' : Good (acc' ++ rej') := fun j hj => g j (hp.mem_iff.mpr hj)
  have h1 := Cert.le (D := []) c c' g g' (fun j hj => absurd hj List.not_mem_nil) fun θ m _ => by rw [cap_perm hp]; omega
  have h2 := Cert.le (D := []) c' c g' g (fun j hj => absurd hj List.not_mem_nil) fun θ m _ => by rw [cap_perm hp]; omega
  rw [sumF_nil] at h1 h2
  have h3 := sumF_perm hp
  rw [sumF_append, sumF_append] at h3
  omega
/-- no choice has more -/
theorem Cert.best {acc rej S : List Job} (c : Cert acc rej) (g : Good (acc ++ rej)) (hf : Feas S) (hs : ∀ p : Job → Bool, S.countP p ≤ (acc ++ rej).countP p) (h0 : ∀ j ∈ S, 0 ≤ j.2) : sumF S ≤ sumF acc := by
  have := sum_le (A := S) (B := acc) (D := []) h0 (fun j hj => (g j (by simp [hj])).2) (fun j hj => absurd hj List.not_mem_nil) fun θ hθ => by
    obtain ⟨m, e⟩ := c.cap_eq θ
    have h1 := ov_le_cap (J := acc ++ rej) hf hs θ m
    omega
  rw [sumF_nil] at this
  omega
/-- one job more -/
theorem Cert.more {acc rej acc' rej' J : List Job} {j : Job} (c : Cert acc rej) (c' : Cert acc' rej') (g : Good J) (gj : 1 ≤ j.1 ∧ 0 ≤ j.2) (hp : (acc ++ rej).Perm J) (hp' : (acc' ++ rej').Perm (J ++ [j])) :
    sumF rej ≤ sumF rej' ∧ sumF rej' ≤ sumF rej + j.2 := by
  have g1 : Good (acc ++ rej) := fun x hx => g x (hp.mem_iff.mp hx)
  have g2 : Good (acc' ++ rej') := fun x hx => by
    rcases List.mem_append.mp (hp'.mem_iff.mp hx) with h | h
    · exact g x h
    · rw [List.mem_singleton.mp h]; exact gj
  have hc : ∀ θ m, cap (J ++ [j]) θ m = cap J θ m + [j].countP (fun j => decide ((m : Int) < j.1) && decide (θ < j.2)) := fun θ m => by
    unfold cap; rw [List.countP_append]; omega
  have hj : ∀ θ (m : Nat), [j].countP (fun j => decide ((m : Int) < j.1) && decide (θ < j.2)) ≤ ov [j] θ := fun θ m => countP_le fun x _ h => by
    simp only [Bool.and_eq_true, decide_eq_true_eq] at h ⊢
    exact h.2
  have h1 := Cert.le (D := []) c c' g1 g2 (fun j hj => absurd hj List.not_mem_nil) fun θ m _ => by rw [cap_perm hp, cap_perm hp', hc]; omega
  have h2 := Cert.le (D := [j]) c' c g2 g1 (fun x hx => by rw [List.mem_singleton.mp hx]; exact gj.2) fun θ m _ => by
    rw [cap_perm hp, cap_perm hp', hc]
    have := hj θ m
    omega
  have e1 := sumF_perm hp
  have e2 := sumF_perm hp'
  rw [sumF_append] at e1
  rw [sumF_append, sumF_append] at e2
  have e3 : sumF [j] = j.2 := by unfold sumF; simp
  rw [sumF_nil] at h1
  rw [e3] at h2 e2
  omega
/-- one end later -/
theorem Cert.later {acc rej acc' rej' A B : List Job} {e e' f : Int} (c : Cert acc rej) (c' : Cert acc' rej') (hp : (acc ++ rej).Perm (A ++ (e, f) :: B)) (hp' : (acc' ++ rej').Perm (A ++ (e', f) :: B)) (g : Good (A ++ (e, f) :: B)) (he : e ≤ e') :
    sumF rej' ≤ sumF rej := by
  have g1 : Good (acc ++ rej) := fun x hx => g x (hp.mem_iff.mp hx)
  have gf : 1 ≤ e ∧ 0 ≤ f := g (e, f) (by simp)
  have g2 : Good (acc' ++ rej') := fun x hx => by
    have hx' := hp'.mem_iff.mp hx
    rcases List.mem_append.mp hx' with h | h
    · exact g x (by simp [h])
    · rcases List.mem_cons.mp h with rfl | h
      · exact ⟨by show 1 ≤ e'; omega, gf.2⟩
      · exact g x (by simp [h])
  have h1 := Cert.le (D := []) c c' g1 g2 (fun j hj => absurd hj List.not_mem_nil) fun θ m _ => by
    rw [cap_perm hp, cap_perm hp']
    unfold cap
    rw [List.countP_append, List.countP_append, List.countP_cons, List.countP_cons]
    have : (if (decide ((m : Int) < e) && decide (θ < f)) = true then 1 else 0) ≤ (if (decide ((m : Int) < e') && decide (θ < f)) = true then 1 else 0) := by
      by_cases h : (decide ((m : Int) < e) && decide (θ < f)) = true
      · simp only [Bool.and_eq_true, decide_eq_true_eq] at h
        rw [if_pos (by simp only [Bool.and_eq_true, decide_eq_true_eq]; exact h), if_pos (by simp only [Bool.and_eq_true, decide_eq_true_eq]; exact ⟨by omega, h.2⟩)]
        exact Nat.le_refl _
      · rw [if_neg h]; omega
    show m + (A.countP _ + (B.countP _ + if (decide ((m : Int) < e) && decide (θ < f)) = true then 1 else 0)) ≤ m + (A.countP _ + (B.countP _ + if (decide ((m : Int) < e') && decide (θ < f)) = true then 1 else 0)) + ov [] θ
    omega
  have e1 := sumF_perm hp
  have e2 := sumF_perm hp'
  rw [sumF_append, sumF_append] at e1 e2
  have e3 : sumF ((e, f) :: B) = f + sumF B := by unfold sumF; simp
  have e4 : sumF ((e', f) :: B) = f + sumF B := by unfold sumF; simp
  rw [sumF_nil] at h1
  rw [e3] at e1
  rw [e4] at e2
  omega

/-! ### orders and ticks -/
theorem feas_of_order : ∀ {l : List Job}, (∀ (k : Nat) j, l[k]? = some j → (k : Int) + 1 ≤ j.1) → Feas l := by
  intro l h t
  have e : l.countP (fun j => decide (j.1 ≤ (t : Int))) = (l.take t).countP (fun j => decide (j.1 ≤ (t : Int))) + (l.drop t).countP (fun j => decide (j.1 ≤ (t : Int))) := by
    rw [← List.countP_append, List.take_append_drop]
  rw [e, countP_zero (l := l.drop t) (fun x hx => by
    obtain ⟨i, hi, rfl⟩ := List.mem_iff_getElem.mp hx
    have hi' : t + i < l.length := by rw [List.length_drop] at hi; omega
    have := h (t + i) (l.drop t)[i] (by rw [List.getElem?_eq_some_iff]; exact ⟨hi', by simp⟩)
    simp only [decide_eq_false_iff_not]
    omega)]
  have h1 : (l.take t).countP (fun j => decide (j.1 ≤ (t : Int))) ≤ (l.take t).length := List.countP_le_length
  rw [List.length_take] at h1
  omega
theorem feas_perm {A B : List Job} (h : A.Perm B) (f : Feas A) : Feas B := fun t => by rw [← h.countP_eq]; exact f t
/-- in an order by rising ends the k + 1 first end by the k-th's end -/
theorem early {l : List Job} (hs : l.Pairwise (fun a b => a.1 ≤ b.1)) {k : Nat} {j : Job} (hk : l[k]? = some j) {t : Int} (ht : j.1 ≤ t) : k + 1 ≤ l.countP (fun x => decide (x.1 ≤ t)) := by
  obtain ⟨hlt, e⟩ := List.getElem?_eq_some_iff.mp hk
  have e2 : l.countP (fun x => decide (x.1 ≤ t)) = (l.take (k + 1)).countP (fun x => decide (x.1 ≤ t)) + (l.drop (k + 1)).countP (fun x => decide (x.1 ≤ t)) := by
    rw [← List.countP_append, List.take_append_drop]
  have e3 : (l.take (k + 1)).countP (fun x => decide (x.1 ≤ t)) = (l.take (k + 1)).length := by
    rw [List.countP_eq_length]
    intro x hx
    obtain ⟨i, hi, rfl⟩ := List.mem_iff_getElem.mp hx
    rw [List.length_take] at hi
    have hik : i < l.length := by omega
    rw [List.getElem_take]
    simp only [decide_eq_true_eq]
    by_cases hik2 : i = k
    · subst hik2; rw [e]; exact ht
    · have := List.pairwise_iff_getElem.mp hs i k hik hlt (by omega)
      rw [e] at this
      omega
  rw [e2, e3, List.length_take]
  omega
/-- a row that can be done, by rising ends -/
theorem order_of_feas {l : List Job} (hs : l.Pairwise (fun a b => a.1 ≤ b.1)) (f : Feas l) {k : Nat} {j : Job} (hk : l[k]? = some j) : (k : Int) + 1 ≤ j.1 := by
  by_cases h : (k : Int) + 1 ≤ j.1
  · exact h
  · have h1 := early hs hk (t := (k : Int)) (by omega)
    have h2 := f k
    omega

/-! ### the greedy choice -/
/-- left, with its tick: the kept that end by it fill it, none of them with a lower fine -/
def LeftOk (kept : List Job) (r : Job) (t : Int) : Prop :=
  r.1 ≤ t ∧ 0 ≤ t ∧ (kept.countP (fun j => decide (j.1 ≤ t)) : Int) = t ∧ ∀ j ∈ kept, j.1 ≤ t → r.2 ≤ j.2
theorem LeftOk.keep {kept : List Job} {r j : Job} {t : Int} (h : LeftOk kept r t) (f : Feas (kept ++ [j])) : LeftOk (kept ++ [j]) r t := by
  obtain ⟨h1, h0, h2, h3⟩ := h
  have f1 := f t.toNat
  have et : ((t.toNat : Nat) : Int) = t := by omega
  rw [et, List.countP_append] at f1
  have hj : [j].countP (fun j => decide (j.1 ≤ t)) = 0 := by omega
  refine ⟨h1, h0, by rw [List.countP_append, hj]; exact h2, fun x hx hxt => ?_⟩
  rcases List.mem_append.mp hx with hx | hx
  · exact h3 x hx hxt
  · rw [List.mem_singleton.mp hx] at hxt
    rw [List.countP_eq_zero] at hj
    exact absurd (decide_eq_true hxt) (hj j (by simp))
theorem LeftOk.new {kept : List Job} {r : Job} {t : Int} (f : Feas kept) (h0 : 0 ≤ t) (h : t < ((kept ++ [r]).countP (fun j => decide (j.1 ≤ t)) : Int)) (hs : ∀ j ∈ kept, r.2 ≤ j.2) : LeftOk kept r t := by
  have f1 := f t.toNat
  have et : ((t.toNat : Nat) : Int) = t := by omega
  rw [et] at f1
  rw [List.countP_append] at h
  by_cases hr : r.1 ≤ t
  · have e : [r].countP (fun j => decide (j.1 ≤ t)) = 1 := by simp [hr]
    rw [e] at h
    exact ⟨hr, h0, by omega, fun j hj _ => hs j hj⟩
  · have e : [r].countP (fun j => decide (j.1 ≤ t)) = 0 := by simp [hr]
    rw [e] at h
    omega
theorem LeftOk.cert {kept rej : List Job} (f : Feas kept) (h : ∀ r ∈ rej, ∃ t, LeftOk kept r t) : Cert kept rej := by
  refine ⟨f, fun r hr => ?_⟩
  obtain ⟨t, h1, h0, h2, h3⟩ := h r hr
  have et : ((t.toNat : Nat) : Int) = t := by omega
  refine ⟨t.toNat, by omega, ?_⟩
  rw [et]
  have : kept.countP (fun j => decide (j.1 ≤ t)) ≤ kept.countP (fun j => decide (j.1 ≤ t) && decide (r.2 ≤ j.2)) := countP_le fun x hx h => by
    simp only [Bool.and_eq_true, decide_eq_true_eq] at h ⊢
    exact ⟨h, h3 x hx h⟩
  omega
theorem feas_snoc_le {A B : List Job} (f : Feas (A ++ B)) : Feas A := fun t => by
  have := f t
  rw [List.countP_append] at this
  omega

/-! ### the ticks of the law's own way -/
structure Ticks (pre : List Job) (acc : List (Job × Int)) (rej : List Job) : Prop where
  nd : (acc.map (·.2)).Nodup
  at_ : ∀ p ∈ acc, 1 ≤ p.2 ∧ p.2 ≤ p.1.1 ∧ ∀ u, p.2 < u → u ≤ p.1.1 → u ∈ acc.map (·.2)
  why : ∀ r ∈ rej, ∃ t : Nat, r.1 ≤ (t : Int) ∧ t ≤ (acc.map (·.1)).countP (fun j => decide (j.1 ≤ (t : Int)) && decide (r.2 ≤ j.2))
  perm : (acc.map (·.1) ++ rej).Perm pre
theorem Ticks.nil : Ticks [] [] [] := ⟨List.nodup_nil, fun p h => absurd h List.not_mem_nil, fun p h => absurd h List.not_mem_nil, List.Perm.refl _⟩
theorem count_upto {l : List Int} (nd : l.Nodup) (h1 : ∀ x ∈ l, 1 ≤ x) : ∀ t : Nat, l.countP (fun x => decide (x ≤ (t : Int))) ≤ t
  | 0 => Nat.le_of_eq (countP_zero fun x hx => by have := h1 x hx; simp only [decide_eq_false_iff_not]; omega)
  | t + 1 => by
    have ih := count_upto nd h1 t
    have e := countP_split (fun x : Int => decide (x ≤ (t : Int))) (fun x : Int => decide (x ≤ ((t + 1 : Nat) : Int))) l
    have h2 : l.countP (fun x => decide (x ≤ (t : Int)) && decide (x ≤ ((t + 1 : Nat) : Int))) ≤ l.countP (fun x => decide (x ≤ (t : Int))) := countP_le fun x _ h => by
      simp only [Bool.and_eq_true, decide_eq_true_eq] at h ⊢
      exact h.1
    have h3 : l.countP (fun x => !decide (x ≤ (t : Int)) && decide (x ≤ ((t + 1 : Nat) : Int))) ≤ l.countP (fun x => x == ((t + 1 : Nat) : Int)) := countP_le fun x _ h => by
      simp only [Bool.and_eq_true, Bool.not_eq_true', decide_eq_false_iff_not, decide_eq_true_eq] at h
      exact beq_iff_eq.mpr (by omega)
    have h4 : l.countP (fun x => x == ((t + 1 : Nat) : Int)) ≤ 1 := by
      have := List.nodup_iff_count.mp nd ((t + 1 : Nat) : Int)
      exact this
    omega
theorem Ticks.feas {pre : List Job} {acc : List (Job × Int)} {rej : List Job} (T : Ticks pre acc rej) : Feas (acc.map (·.1)) := fun t => by
  have h1 : (acc.map (·.1)).countP (fun j => decide (j.1 ≤ (t : Int))) ≤ (acc.map (·.2)).countP (fun x => decide (x ≤ (t : Int))) := by
    rw [List.countP_map, List.countP_map]
    refine countP_le fun p hp h => ?_
    have h' : p.1.1 ≤ (t : Int) := of_decide_eq_true h
    have := T.at_ p hp
    show decide (p.2 ≤ (t : Int)) = true
    exact decide_eq_true (by omega)
  have h2 := count_upto T.nd (fun x hx => by
    obtain ⟨p, hp, rfl⟩ := List.mem_map.mp hx
    exact (T.at_ p hp).1) t
  omega
theorem Ticks.cert {pre : List Job} {acc : List (Job × Int)} {rej : List Job} (T : Ticks pre acc rej) : Cert (acc.map (·.1)) rej := ⟨T.feas, T.why⟩
theorem Ticks.take {pre : List Job} {acc : List (Job × Int)} {rej : List Job} (T : Ticks pre acc rej) {j : Job} {t : Int} (h1 : 1 ≤ t) (h2 : t ≤ j.1) (h3 : t ∉ acc.map (·.2)) (h4 : ∀ u, t < u → u ≤ j.1 → u ∈ acc.map (·.2)) :
    Ticks (pre ++ [j]) (acc ++ [(j, t)]) rej := by
  have hm : (acc ++ [(j, t)]).map (·.2) = acc.map (·.2) ++ [t] := by simp
  have hm1 : (acc ++ [(j, t)]).map (·.1) = acc.map (·.1) ++ [j] := by simp
  refine ⟨?_, fun p hp => ?_, fun r hr => ?_, ?_⟩
  · rw [hm, List.nodup_append]
    refine ⟨T.nd, by simp, fun a ha b hb e => ?_⟩
    rw [List.mem_singleton.mp hb] at e
    exact h3 (e ▸ ha)
  · rw [hm]
    rcases List.mem_append.mp hp with hp | hp
    · obtain ⟨a, b, c⟩ := T.at_ p hp
      exact ⟨a, b, fun u u1 u2 => List.mem_append_left _ (c u u1 u2)⟩
    · rw [List.mem_singleton.mp hp]
      exact ⟨h1, h2, fun u u1 u2 => List.mem_append_left _ (h4 u u1 u2)⟩
  · obtain ⟨u, a, b⟩ := T.why r hr
    exact ⟨u, a, by rw [hm1, List.countP_append]; omega⟩
  · rw [hm1]
    have p1 : (acc.map (·.1) ++ [j] ++ rej).Perm (acc.map (·.1) ++ rej ++ [j]) := by
      rw [List.append_assoc, List.append_assoc]
      exact List.Perm.append_left _ List.perm_append_comm
    exact p1.trans (T.perm.append_right _)
theorem upto_count {l : List Int} : ∀ t : Nat, (∀ u : Nat, 1 ≤ u → u ≤ t → (u : Int) ∈ l) → t ≤ l.countP (fun x => decide (x ≤ (t : Int)))
  | 0, _ => Nat.zero_le _
  | t + 1, h => by
    have ih := upto_count t fun u u1 u2 => h u u1 (by omega)
    have hm := h (t + 1) (by omega) (Nat.le_refl _)
    have e := countP_split (fun x : Int => decide (x ≤ (t : Int))) (fun x : Int => decide (x ≤ ((t + 1 : Nat) : Int))) l
    have h2 : l.countP (fun x => decide (x ≤ (t : Int))) ≤ l.countP (fun x => decide (x ≤ (t : Int)) && decide (x ≤ ((t + 1 : Nat) : Int))) := countP_le fun x _ h => by
      simp only [Bool.and_eq_true, decide_eq_true_eq] at h ⊢
      omega
    have h3 : 0 < l.countP (fun x => !decide (x ≤ (t : Int)) && decide (x ≤ ((t + 1 : Nat) : Int))) := by
      rw [List.countP_pos_iff]
      refine ⟨_, hm, ?_⟩
      simp only [Bool.and_eq_true, Bool.not_eq_true', decide_eq_false_iff_not, decide_eq_true_eq]
      omega
    omega
/-- the row of taken ticks ends somewhere -/
theorem row_end (l : List Int) : ∀ (d n : Nat), (∀ x ∈ l, x ≤ ((n + d : Nat) : Int)) → (∀ u : Nat, 1 ≤ u → u ≤ n → (u : Int) ∈ l) →
    ∃ t : Nat, n ≤ t ∧ (∀ u : Nat, 1 ≤ u → u ≤ t → (u : Int) ∈ l) ∧ ((t + 1 : Nat) : Int) ∉ l
  | 0, n, hb, h => ⟨n, Nat.le_refl _, h, fun hm => by have := hb _ hm; omega⟩
  | d + 1, n, hb, h => by
    by_cases hm : ((n + 1 : Nat) : Int) ∈ l
    · obtain ⟨t, t1, t2, t3⟩ := row_end l d (n + 1) (fun x hx => by have := hb x hx; omega) fun u u1 u2 => by
        by_cases hu : u ≤ n
        · exact h u u1 hu
        · have : u = n + 1 := by omega
          subst this; exact hm
      exact ⟨t, by omega, t2, t3⟩
    · exact ⟨n, Nat.le_refl _, h, hm⟩
theorem max_ex : ∀ l : List Int, ∃ M : Nat, ∀ x ∈ l, x ≤ (M : Int)
  | [] => ⟨0, fun j h => absurd h List.not_mem_nil⟩
  | j :: l => by
    obtain ⟨M, h⟩ := max_ex l
    refine ⟨M + j.toNat, fun x hx => ?_⟩
    rcases List.mem_cons.mp hx with rfl | hx
    · omega
    · have := h x hx
      omega
theorem Ticks.leave {pre : List Job} {acc : List (Job × Int)} {rej : List Job} (T : Ticks pre acc rej) {j : Job} (hall : ∀ u, 1 ≤ u → u ≤ j.1 → u ∈ acc.map (·.2)) (hs : ∀ x ∈ pre, j.2 ≤ x.2) :
    Ticks (pre ++ [j]) acc (rej ++ [j]) := by
  refine ⟨T.nd, T.at_, fun r hr => ?_, ?_⟩
  · rcases List.mem_append.mp hr with hr | hr
    · exact T.why r hr
    · rw [List.mem_singleton.mp hr]
      obtain ⟨M, hM⟩ := max_ex (acc.map (·.2))
      obtain ⟨t, t1, t2, t3⟩ := row_end (acc.map (·.2)) M j.1.toNat (fun x hx => by have := hM x hx; omega) fun u u1 u2 => hall u (by omega) (by omega)
      refine ⟨t, by omega, ?_⟩
      have h1 := upto_count (l := acc.map (·.2)) t t2
      have h2 : (acc.map (·.2)).countP (fun x => decide (x ≤ (t : Int))) ≤ (acc.map (·.1)).countP (fun x => decide (x.1 ≤ (t : Int)) && decide (j.2 ≤ x.2)) := by
        rw [List.countP_map, List.countP_map]
        refine countP_le fun p hp h => ?_
        have h' : p.2 ≤ (t : Int) := of_decide_eq_true h
        show (decide (p.1.1 ≤ (t : Int)) && decide (j.2 ≤ p.1.2)) = true
        simp only [Bool.and_eq_true, decide_eq_true_eq]
        refine ⟨?_, hs _ (T.perm.mem_iff.mp (List.mem_append_left _ (List.mem_map_of_mem hp)))⟩
        by_cases hle : p.1.1 ≤ (t : Int)
        · exact hle
        · exact absurd ((T.at_ p hp).2.2 ((t + 1 : Nat) : Int) (by omega) (by omega)) t3
      omega
  · rw [← List.append_assoc]
    exact T.perm.append_right _
end Fb

namespace Fb
open PySem PySem.W PyProof.Rows
/-- the answers of an order; the asked places are among ok -/
def Ans {α : Type} (ok : Nat → Prop) (lt : Nat → Nat → Bool) : KasT α → (α → Prop) → Prop
  | .ret a, Q => Q a
  | .ask i j k, Q => ok i ∧ ok j ∧ Ans ok lt (k (lt i j)) Q
/-- what comes out -/
def runK {α : Type} (lt : Nat → Nat → Bool) : KasT α → α
  | .ret a => a
  | .ask i j k => runK lt (k (lt i j))
theorem Ans.mono {α : Type} {ok : Nat → Prop} {lt : Nat → Nat → Bool} {Q Q' : α → Prop} (h : ∀ a, Q a → Q' a) : ∀ {t : KasT α}, Ans ok lt t Q → Ans ok lt t Q'
  | .ret a, x => h a x
  | .ask _ _ _, ⟨a, b, x⟩ => ⟨a, b, Ans.mono h x⟩
theorem Ans.bind {α β : Type} {ok : Nat → Prop} {lt : Nat → Nat → Bool} {f : α → KasT β} {Q : β → Prop} : ∀ {t : KasT α}, Ans ok lt t (fun a => Ans ok lt (f a) Q) → Ans ok lt (t.bind f) Q
  | .ret _, x => x
  | .ask _ _ _, ⟨a, b, x⟩ => ⟨a, b, Ans.bind x⟩
theorem Ans.run {α : Type} {ok : Nat → Prop} {lt : Nat → Nat → Bool} {Q : α → Prop} : ∀ {t : KasT α}, Ans ok lt t Q → Ans ok lt t (fun a => a = runK lt t ∧ Q a)
  | .ret _, x => ⟨rfl, x⟩
  | .ask _ _ _, ⟨a, b, x⟩ => ⟨a, b, Ans.run x⟩
theorem Ans.of_run {α : Type} {ok : Nat → Prop} {lt : Nat → Nat → Bool} {Q : α → Prop} : ∀ {t : KasT α}, Ans ok lt t Q → Q (runK lt t)
  | .ret _, x => x
  | .ask i j k, x => Ans.of_run (t := k (lt i j)) x.2.2

section
variable {O : KeyOrd} {κ : Nat → O.α} {N : Nat}
def key (κ : Nat → O.α) (p : Array Nat) (i : Nat) : O.α := κ (p.getD i 0)
def Up (κ : Nat → O.α) (p : Array Nat) (k : Nat) : Prop := ∀ i j, i ≤ j → j < k → O.kle (key κ p i) (key κ p j)
def Down (κ : Nat → O.α) (p : Array Nat) (k : Nat) : Prop := ∀ i j, i ≤ j → j < k → O.kle (key κ p j) (key κ p i)
/-- all places, each once -/
def All (N : Nat) (p : Array Nat) : Prop := p.Perm (List.range N).toArray
theorem All.size {p : Array Nat} (h : All N p) : p.size = N := by
  have := h.size_eq
  simpa using this
theorem All.ok {p : Array Nat} (h : All N p) {i : Nat} (hi : i < N) : p.getD i 0 < N := by
  have hs : i < p.size := by rw [h.size]; exact hi
  have e : p.getD i 0 = p[i] := by simp [Array.getD, hs]
  have hm : p[i] ∈ (List.range N).toArray.toList := (Array.perm_iff_toList_perm.mp h).mem_iff.mp (by simp)
  rw [e]
  simpa using hm
theorem All.rev {p : Array Nat} (h : All N p) (i j : Nat) : All N (kas_rev p i j) := (mirror_perm _ _ _ _).trans h
theorem All.bub {p : Array Nat} (h : All N p) (k d : Nat) : All N (bubble p k d) := (bubble_perm _ _ _).trans h
theorem getD_eq (p : Array Nat) (i : Nat) : p.getD i 0 = (p[i]?).getD 0 := by
  by_cases h : i < p.size
  · simp [Array.getD, h]
  · simp [Array.getD, h]
theorem key_of {p q : Array Nat} {i j : Nat} (h : p[i]? = q[j]?) : key κ p i = key κ q j := by
  unfold key; rw [getD_eq, getD_eq, h]
theorem key_rev {p : Array Nat} {i j : Nat} (hj : j ≤ p.size) (k : Nat) : key κ (kas_rev p i j) k = if i ≤ k ∧ k < j then key κ p (i + j - 1 - k) else key κ p k := by
  have e := getElem?_mirror_all (i := i) hj k
  by_cases h : i ≤ k ∧ k < j
  · rw [if_pos h] at e ⊢; exact key_of e
  · rw [if_neg h] at e ⊢; exact key_of e
theorem key_rev_same {p : Array Nat} {i j : Nat} (hj : j ≤ p.size) (h : ∀ k, i ≤ k → k < j → key κ p k = key κ p (j - 1)) (k : Nat) : key κ (kas_rev p i j) k = key κ p k := by
  rw [key_rev hj]
  split
  · rename_i hk
    rw [h _ (by omega) (by omega), h k hk.1 hk.2]
  · rfl
theorem key_bub {p : Array Nat} {k l : Nat} (hk : k < p.size) (hl : l ≤ k) (i : Nat) : key κ (bubble p k (k - l)) i = if i = l then key κ p k else if l < i ∧ i ≤ k then key κ p (i - 1) else key κ p i := by
  have e := getElem?_bubble hk (k - l) (by omega) i
  rw [show k - (k - l) = l by omega] at e
  by_cases h1 : i = l
  · rw [if_pos h1] at e ⊢; exact key_of e
  · rw [if_neg h1] at e ⊢
    by_cases h2 : l < i ∧ i ≤ k
    · rw [if_pos h2] at e ⊢; exact key_of e
    · rw [if_neg h2] at e ⊢; exact key_of e
abbrev ltK (κ : Nat → O.α) (i j : Nat) : Bool := O.blt (κ i) (κ j)
abbrev In (N : Nat) : Nat → Prop := fun i => i < N

theorem ans_asc {p : Array Nat} (hp : All N p) : ∀ (f n : Nat), 1 ≤ n → n + f ≤ N → Up κ p n → Ans (In N) (ltK κ) (kas_asc p f n) (fun m => n ≤ m ∧ m ≤ n + f ∧ Up κ p m ∧ (m = n + f ∨ O.klt (key κ p m) (key κ p (m - 1))))
  | 0, n, _, _, hs => ⟨Nat.le_refl _, Nat.le_refl _, hs, .inl rfl⟩
  | f + 1, n, h1, hN, hs => by
    refine ⟨hp.ok (by omega), hp.ok (by omega), ?_⟩
    cases hc : O.blt (key κ p n) (key κ p (n - 1)) with
    | true =>
      rw [show ltK κ (p.getD n 0) (p.getD (n - 1) 0) = true from hc]; dsimp only; rw [if_pos rfl]
      exact ⟨Nat.le_refl _, by omega, hs, .inr hc⟩
    | false =>
      rw [show ltK κ (p.getD n 0) (p.getD (n - 1) 0) = false from hc]; dsimp only; rw [if_neg Bool.false_ne_true]
      refine (ans_asc hp f (n + 1) (by omega) (by omega) fun i j hij hj => ?_).mono fun m ⟨a, b, c, d⟩ => ⟨by omega, by omega, c, d.imp (by omega) id⟩
      by_cases hjn : j < n
      · exact hs i j hij hjn
      · have : j = n := by omega
        subst this
        by_cases hi : i = j
        · subst hi; exact KeyOrd.kle_refl _
        · exact KeyOrd.kle_trans (hs i (j - 1) (by omega) (by omega)) hc

theorem ans_desc : ∀ (f : Nat) (p : Array Nat) (n q : Nat), All N p → n + f ≤ N → Down κ p n → q + 1 ≤ n → (∀ i, n - (q + 1) ≤ i → i < n → key κ p i = key κ p (n - 1)) →
    Ans (In N) (ltK κ) (kas_desc f p n q) (fun r => All N r.1 ∧ n ≤ r.2.1 ∧ r.2.1 ≤ n + f ∧ Down κ r.1 r.2.1 ∧ r.2.2 + 1 ≤ r.2.1 ∧ ∀ i, r.2.1 - (r.2.2 + 1) ≤ i → i < r.2.1 → key κ r.1 i = key κ r.1 (r.2.1 - 1))
  | 0, p, n, q, hp, hN, hs, hq, he => ⟨hp, Nat.le_refl _, Nat.le_refl _, hs, hq, he⟩
  | f + 1, p, n, q, hp, hN, hs, hq, he => by
    refine ⟨hp.ok (by omega), hp.ok (by omega), ?_⟩
    have grow : ∀ p' : Array Nat, (∀ k, key κ p' k = key κ p k) → O.klt (key κ p n) (key κ p (n - 1)) → Down κ p' (n + 1) := by
      intro p' hk hc i j hij hj
      rw [hk, hk]
      by_cases hjn : j < n
      · exact hs i j hij hjn
      · have : j = n := by omega
        subst this
        by_cases hi : i = j
        · subst hi; exact KeyOrd.kle_refl _
        · exact KeyOrd.kle_trans (KeyOrd.kle_of_klt hc) (hs i (j - 1) (by omega) (by omega))
    cases hc : O.blt (key κ p n) (key κ p (n - 1)) with
    | true =>
      rw [show ltK κ (p.getD n 0) (p.getD (n - 1) 0) = true from hc]; dsimp only; rw [if_pos rfl]
      by_cases hq0 : q > 0
      · rw [if_pos hq0]
        refine (ans_desc f _ (n + 1) 0 (hp.rev _ _) (by omega) (grow _ (key_rev_same (by rw [hp.size]; omega) he) hc) (by omega) fun i a b => by congr 1; omega).mono fun r ⟨a, b, c, d⟩ => ⟨a, by omega, by omega, d⟩
      · rw [if_neg hq0]
        refine (ans_desc f _ (n + 1) 0 hp (by omega) (grow _ (fun _ => rfl) hc) (by omega) fun i a b => by congr 1; omega).mono fun r ⟨a, b, c, d⟩ => ⟨a, by omega, by omega, d⟩
    | false =>
      rw [show ltK κ (p.getD n 0) (p.getD (n - 1) 0) = false from hc]; dsimp only; rw [if_neg Bool.false_ne_true]
      refine ⟨hp.ok (by omega), hp.ok (by omega), ?_⟩
      cases hd : O.blt (key κ p (n - 1)) (key κ p n) with
      | true =>
        rw [show ltK κ (p.getD (n - 1) 0) (p.getD n 0) = true from hd]; dsimp only; rw [if_pos rfl]
        exact ⟨hp, Nat.le_refl _, by show n ≤ n + (f + 1); omega, hs, hq, he⟩
      | false =>
        rw [show ltK κ (p.getD (n - 1) 0) (p.getD n 0) = false from hd]; dsimp only; rw [if_neg Bool.false_ne_true]
        have hx : key κ p n = key κ p (n - 1) := KeyOrd.kle_antisymm hd hc
        refine (ans_desc f p (n + 1) (q + 1) hp (by omega) (fun i j hij hj => ?_) (by omega) fun i a b => ?_).mono fun r ⟨a, b, c, d⟩ => ⟨a, by omega, by omega, d⟩
        · by_cases hjn : j < n
          · exact hs i j hij hjn
          · have : j = n := by omega
            subst this
            by_cases hi : i = j
            · subst hi; exact KeyOrd.kle_refl _
            · rw [hx]; exact hs i (j - 1) (by omega) (by omega)
        · rw [show n + 1 - 1 = n by omega]
          by_cases hi : i = n
          · subst hi; rfl
          · rw [hx]; exact he i (by omega) (by omega)

/-- a run: its length and the places -/
def RunOk (κ : Nat → O.α) (N : Nat) (r : Nat × Array Nat) : Prop := All N r.2 ∧ 1 ≤ r.1 ∧ r.1 ≤ N ∧ Up κ r.2 r.1
theorem ans_tail3 {p : Array Nat} (hp : All N p) {n : Nat} (h1 : 1 ≤ n) (hn : n ≤ N) (hs : Down κ p n) : Ans (In N) (ltK κ) (kas_tail3 n N p) (RunOk κ N) := by
  unfold kas_tail3
  have hz : n ≤ p.size := by rw [hp.size]; exact hn
  refine Ans.bind ((ans_asc (hp.rev 0 n) (N - n) n h1 (by omega) fun i j hij hj => ?_).mono fun m ⟨a, b, c, _⟩ => ⟨hp.rev 0 n, by show 1 ≤ m; omega, by show m ≤ N; omega, c⟩)
  rw [key_rev hz, key_rev hz, if_pos (by omega), if_pos (by omega)]
  exact hs _ _ (by omega) (by omega)
theorem ans_descPart {p : Array Nat} (hp : All N p) {n : Nat} (hn : n + 1 ≤ N) (hs : Down κ p (n + 1)) : Ans (In N) (ltK κ) (kas_descPart n N p) (RunOk κ N) := by
  unfold kas_descPart
  refine Ans.bind ((ans_desc (N - (n + 1)) p (n + 1) 0 hp (by omega) hs (by omega) fun i a b => by congr 1; omega).mono ?_)
  rintro ⟨p', m, q⟩ ⟨a, b, c, d, e, g⟩
  dsimp only at a b c d e g ⊢
  by_cases hq : q > 0
  · rw [if_pos hq]
    refine ans_tail3 (a.rev _ _) (by omega) (by omega) fun i j hij hj => ?_
    rw [key_rev_same (by rw [a.size]; omega) g, key_rev_same (by rw [a.size]; omega) g]
    exact d i j hij hj
  · rw [if_neg hq]
    exact ans_tail3 a (by omega) (by omega) d
theorem ans_count {p : Array Nat} (hp : All N p) (hN : 1 ≤ N) : Ans (In N) (ltK κ) (kas_count N p) (RunOk κ N) := by
  unfold kas_count
  refine Ans.bind ((ans_asc hp (N - 1) 1 (Nat.le_refl _) (by omega) fun i j hij hj => ?_).mono ?_)
  · have : i = j := by omega
    subst this; exact KeyOrd.kle_refl _
  rintro n ⟨a, b, c, d⟩
  by_cases hn : (n == N) = true
  · rw [if_pos hn]
    exact ⟨hp, by show 1 ≤ n; omega, by show n ≤ N; omega, c⟩
  · rw [if_neg hn]
    have hne : n ≠ N := fun z => hn (by simp [z])
    have hlt : O.klt (key κ p n) (key κ p (n - 1)) := d.resolve_left (by omega)
    by_cases h1 : n > 1
    · rw [if_pos h1]
      refine ⟨hp.ok (by omega), hp.ok (by omega), ?_⟩
      cases hc : O.blt (key κ p 0) (key κ p (n - 1)) with
      | true =>
        rw [show ltK κ (p.getD 0 0) (p.getD (n - 1) 0) = true from hc]; dsimp only; rw [if_pos rfl]
        exact ⟨hp, by show 1 ≤ n; omega, by show n ≤ N; omega, c⟩
      | false =>
        rw [show ltK κ (p.getD 0 0) (p.getD (n - 1) 0) = false from hc]; dsimp only; rw [if_neg Bool.false_ne_true]
        have hall : ∀ k, 0 ≤ k → k < n → key κ p k = key κ p (n - 1) := fun k _ hk =>
          KeyOrd.kle_antisymm (c k (n - 1) (by omega) (by omega)) (KeyOrd.kle_trans hc (c 0 k (by omega) hk))
        refine ans_descPart (hp.rev 0 n) (by omega) fun i j hij hj => ?_
        rw [key_rev_same (by rw [hp.size]; omega) hall, key_rev_same (by rw [hp.size]; omega) hall]
        by_cases hjn : j < n
        · rw [hall i (by omega) (by omega), hall j (by omega) hjn]; exact KeyOrd.kle_refl _
        · have : j = n := by omega
          subst this
          by_cases hi : i = j
          · subst hi; exact KeyOrd.kle_refl _
          · rw [hall i (by omega) (by omega)]; exact KeyOrd.kle_of_klt hlt
    · rw [if_neg h1]
      have : n = 1 := by omega
      subst this
      refine ans_descPart hp (by omega) fun i j hij hj => ?_
      by_cases hi : i = j
      · subst hi; exact KeyOrd.kle_refl _
      · have hi0 : i = 0 := by omega
        have hj1 : j = 1 := by omega
        subst hi0; subst hj1
        exact KeyOrd.kle_of_klt hlt
theorem ans_place {p : Array Nat} (hp : All N p) {k : Nat} (hk : k < N) (hs : Up κ p k) : ∀ (f l r : Nat), l ≤ r → r ≤ k → r - l ≤ f → (∀ i, i < l → O.kle (key κ p i) (key κ p k)) → (∀ i, r ≤ i → i < k → O.klt (key κ p k) (key κ p i)) →
    Ans (In N) (ltK κ) (kas_place p k f l r) (fun l => l ≤ k ∧ (∀ i, i < l → O.kle (key κ p i) (key κ p k)) ∧ ∀ i, l ≤ i → i < k → O.klt (key κ p k) (key κ p i))
  | 0, l, r, h1, h2, h3, lo, hi => ⟨by omega, lo, fun i a b => hi i (by omega) b⟩
  | f + 1, l, r, h1, h2, h3, lo, hi => by
    unfold kas_place
    by_cases hlr : l ≥ r
    · rw [if_pos hlr]
      exact ⟨by omega, lo, fun i a b => hi i (by omega) b⟩
    · rw [if_neg hlr]
      refine ⟨hp.ok hk, hp.ok (by omega), ?_⟩
      cases hc : O.blt (key κ p k) (key κ p ((l + r) / 2)) with
      | true =>
        rw [show ltK κ (p.getD k 0) (p.getD ((l + r) / 2) 0) = true from hc]; dsimp only; rw [if_pos rfl]
        exact ans_place hp hk hs f l ((l + r) / 2) (by omega) (by omega) (by omega) lo fun i a b => KeyOrd.klt_of_klt_of_kle hc (hs _ _ a b)
      | false =>
        rw [show ltK κ (p.getD k 0) (p.getD ((l + r) / 2) 0) = false from hc]; dsimp only; rw [if_neg Bool.false_ne_true]
        exact ans_place hp hk hs f ((l + r) / 2 + 1) r (by omega) (by omega) (by omega) (fun i a => KeyOrd.kle_trans (hs i ((l + r) / 2) (by omega) (by omega)) hc) hi
theorem ans_bin : ∀ (f : Nat) (p : Array Nat) (k : Nat), All N p → k + f = N → Up κ p k → Ans (In N) (ltK κ) (kas_bin f p k) (fun p' => All N p' ∧ Up κ p' N)
  | 0, p, k, hp, hk, hs => ⟨hp, by rw [← hk]; exact hs⟩
  | f + 1, p, k, hp, hk, hs => by
    refine Ans.bind ((ans_place hp (by omega) hs k 0 k (by omega) (by omega) (by omega) (fun i a => absurd a (by omega)) fun i a b => absurd b (by omega)).mono ?_)
    rintro l ⟨a, b, c⟩
    refine ans_bin f _ (k + 1) (hp.bub _ _) (by omega) fun i j hij hj => ?_
    have hz : k < p.size := by rw [hp.size]; omega
    rw [key_bub hz a, key_bub hz a]
    repeat' split
    all_goals first
      | (exfalso; omega)
      | exact KeyOrd.kle_refl _
      | exact b _ (by omega)
      | exact KeyOrd.kle_of_klt (c _ (by omega) (by omega))
      | exact hs _ _ (by omega) (by omega)
theorem ans_sort (hN : 1 ≤ N) : Ans (In N) (ltK κ) (kas_sort N) (fun p => All N p ∧ Up κ p N) := by
  unfold kas_sort
  refine Ans.bind ((ans_count (Array.Perm.refl _) hN).mono ?_)
  rintro ⟨m, p⟩ ⟨a, b, c, d⟩
  dsimp only at a b c d ⊢
  by_cases hm : m < N
  · rw [if_pos hm]
    exact ans_bin _ p _ a (by omega) (by rw [show max m 1 = m by omega]; exact d)
  · rw [if_neg hm]
    have : m = N := by omega
    subst this
    exact ⟨a, d⟩
end
end Fb

namespace L2
open PySem PySem.Spec PyProof.Rows
/-! ### for a, b in enumerate(xs) -/
def Ite (K : PySem.W.Frag) (a : Addr) : It :=
  ⟨fun i H => ∃ xs x, SqL K H a xs ∧ xs[i]? = some x,
   fun i H x H' => ∃ p v, H p = none ∧ x = .ref p ∧ H' = upd H p (.tup [.int (i : Int), v]) ∧ ∀ xs, SqL K H a xs → xs[i]? = some v,
   fun i H => ∃ xs, SqL K H a xs ∧ xs.length ≤ i⟩
/-- two records of ours have turned, one object was laid and is tracked from now on -/
theorem Inv.turn2 {X : Cx} {pins : List (Addr × Obj)} {σ : St} {H : Hp} {s : Shared} {h' : Heap} {t' : Nat} {e it p : Addr} {o : HO} (I : Inv X pins σ H s) (fe : FpOk X pins H e) (fi : FpOk X pins H it) (hp : s.heap.objs.size ≤ p)
    (k : ∀ b ob, b ≠ e → b ≠ it → s.heap.get? b = some ob → h'.get? b = some ob) (new : ObjOk X.prog X.w (upd H p o) h' p o) : Inv X pins σ (upd H p o) { s with heap := h', toks := t' } := by
  have hn : H p = none := I.hok.fresh hp
  have ne : ∀ b u, H b = some u → b ≠ e ∧ b ≠ it := fun b u q => ⟨fun z => (by rw [z, fe.1] at q; cases q), fun z => (by rw [z, fi.1] at q; cases q)⟩
  refine I.step (g' := s.gens) (d' := s.drawn) (ch := [e, it]) (fun b hb => ?_) (fun b ob _ _ hc q _ => k b ob (fun z => hc (by simp [z])) (fun z => hc (by simp [z])) q)
    (fun b ob _ _ hc q _ => ⟨ob.slots, k b ob (fun z => hc (by simp [z])) (fun z => hc (by simp [z])) q⟩) (fun b ob _ q n => ?_) (fun b ob hc q => ⟨ob, k b ob (fun z => hc (by simp [z])) (fun z => hc (by simp [z])) q⟩)
    (fun b xs q => ?_) (fun b ob u q => ?_) (fun b ps q => ⟨#[], ?_⟩) (fun m hm => ?_) (fun b u q => ?_) I.bare
  · rcases List.mem_cons.mp hb with z | hb
    · subst z; obtain ⟨_, f1, _, f3, f4, f5⟩ := fe; exact ⟨f3, f1, f4, f5⟩
    · obtain rfl := List.mem_singleton.mp hb
      obtain ⟨_, f1, _, f3, f4, f5⟩ := fi; exact ⟨f3, f1, f4, f5⟩
  · rw [upd_ne (Nat.ne_of_lt (Nat.lt_of_lt_of_le (Heap.lt_size q) hp))]; exact n
  · rw [upd_ne (ne_of_none q hn)]; exact q
  · rw [upd_ne (ne_of_none q hn)]; exact q
  · rw [upd_ne (ne_of_none q hn), q]; simp
  · obtain ⟨ob, es, ep, ho, r⟩ := hm
    exact ⟨ob, es, ep, k _ ob (Ne.symm fe.2.1) (Ne.symm fi.2.1) ho, r⟩
  · by_cases hb : b = p
    · subst hb; rw [upd_same] at q; cases q; exact new
    · rw [upd_ne hb] at q
      refine (I.hok b u q).stay (fun c v hc r => k c v ?_ ?_ r) (fun c r => by rw [upd_ne (ne_of_none r hn)]; exact r) fun c xs r => by rw [upd_ne (ne_of_none r hn)]; exact r
      · rcases hc with z | z
        · rw [z]; exact (ne b u q).1
        · exact (ne c _ z).1
      · rcases hc with z | z
        · rw [z]; exact (ne b u q).2
        · exact (ne c _ z).2
theorem turn_enum {P : Program} {w : World} {K : PySem.W.Frag} {es : List Expr} {kk : Nat} {tp : Pos} (a e it : Addr) (hne : e ≠ it) :
    Turn P w K (.Tuple es kk tp) (Ite K a) [e, it] e (fun i h => ∃ old, IsEnum h e it (i : Nat) old ∧ h.IsListIter it a i) where
  mem := by simp
  obj := fun i h ⟨old, he, hit⟩ b hb => by
    rcases List.mem_cons.mp hb with z | hb
    · subst z
      exact ⟨_, he, fun v z => by cases (show Data.fields _ = Data.cell v from z)⟩
    · obtain rfl := List.mem_singleton.mp hb
      obtain ⟨o, e, c, d⟩ := hit
      exact ⟨o, e, fun v z => by rw [d] at z; cases z⟩
  keep := fun i h h' ⟨old, he, hit⟩ k => ⟨old, k e (by simp) _ he, hit.at fun o q => k it (by simp) o q⟩
  item := by
    intro X hP hw hK hc i pins s σ H E I hf st hg
    subst hP hw hK
    obtain ⟨old, he, hit⟩ := st
    obtain ⟨xs, x, hq, hx⟩ := hg
    obtain ⟨its, rv, p, hz⟩ := I.list hq
    obtain ⟨u, hu, ru⟩ := rv.get hx
    have hel : e < s.heap.objs.size := Heap.lt_size he
    refine wpAny_pyNext_enum_item he hit p.isList (x := u) (by simpa using hu) hne fun h' he' hit' ht hz' kk => ?_
    refine ⟨.ref s.heap.objs.size, rfl, wpAny_letOwnedTupleGo_enum he' fun h2 he2 hs2 => ?_⟩
    have hs2' : Heap.SameBut e h' h2 := hs2
    have kk2 : ∀ b o, b ≠ e → b ≠ it → s.heap.get? b = some o → h2.get? b = some o := fun b o h1 h3 q => (hs2'.2 b h1).trans (kk b o h1 h3 q)
    have ht2 : h2.get? s.heap.objs.size = some { cls := .type "tuple", data := .seq #[.int i s.toks, u] } := (hs2'.2 _ (Nat.ne_of_gt hel)).trans ht
    refine ⟨.ref s.heap.objs.size, upd H s.heap.objs.size (.tup [.int (i : Int), x]), I.turn2 (hf e (by simp)) (hf it (by simp)) (Nat.le_refl _) kk2 ?_, rfl, ⟨_, x, I.hok.fresh (Nat.le_refl _), rfl, rfl, fun ys hy => by rw [I.list_inj hy hq]; exact hx⟩, ⟨u, ?_, ?_⟩, fun b hb => ?_⟩
    · exact ⟨by show 2 ≤ sizeLine; rw [sizeLine_eq]; decide, [.int i s.toks, u], .cons ⟨_, rfl⟩ (.cons ru .nil), ⟨_, ht2, rfl, _, rfl⟩⟩
    · have e1 : ((i + 1 : Nat) : Int) = (i : Int) + 1 := by omega
      rw [e1]; exact he2
    · exact hit'.extBut hs2'.extBut (Ne.symm hne)
    · have q := (hf b hb).1
      have hb' : b ≠ s.heap.objs.size := by
        rcases List.mem_cons.mp hb with z | hb
        · rw [z]; exact Nat.ne_of_lt hel
        · obtain rfl := List.mem_singleton.mp hb
          obtain ⟨o, e3, _⟩ := hit
          exact Nat.ne_of_lt (Heap.lt_size e3)
      rw [upd_ne hb']; exact q
  done := by
    intro X hP hw hK hc i pins s σ H E I hf st hg
    subst hP hw hK
    obtain ⟨old, he, hit⟩ := st
    obtain ⟨xs, hq, hx⟩ := hg
    obtain ⟨its, rv, p, hz⟩ := I.list hq
    obtain ⟨f0, f1, f2, f3, f4, f5⟩ := hf it (by simp)
    have hl := rv.length
    exact wpAny_pyNext_enum_end (I.ok.hd hc) he hit p.isList (by simp; omega) fun h' eb => ⟨rfl, I.turned (t' := s.toks) (fun b o hb q => eb b o hb q) f0 f1 f3 f4 f5⟩
  self := fun _ _ _ _ _ ⟨_, he, _⟩ h => wpAny_pyIter_enum he h
def iEnum (K : PySem.W.Frag) (ta : TA) : TI := fun σ H R => ta σ H fun vs H1 => ∃ a, vs = [.ref a] ∧ (∃ xs, SqL K H1 a xs) ∧ R (Ite K a) H1
theorem pi_enum {X : Cx} {es : List Expr} {kk : Nat} {tp : Pos} {l : Expr} {ta : TA} {p pos : Pos} (hg : Gl X "enumerate") (hm : X.mg "enumerate" = none) (ha : PA X [l] ta) (hs : starEach [l] X.env = [(false, eval l X.env)] := by rfl) :
    PI X (.Tuple es kk tp) (.Call (.Name "enumerate" p) [l] [] pos) (iEnum X.K ta) := by
  intro pins s σ H R I h
  refine Call_ (ld_blt I hg hm boot_enumerate (PyProof.Rows.callWith_type1 (thn (ha pos pins s σ H _ I h) fun us s1 ⟨vs, H1, I1, r1, q1⟩ => ?_) hs rfl))
  obtain ⟨a, e, ⟨xs, hq⟩, q⟩ := q1
  subst e
  obtain ⟨u, rfl, ru⟩ := vals1 r1
  cases ru
  obtain ⟨its, rv, pl, hz⟩ := I1.list hq
  refine call_enumerate_list pl.isList fun h' he hit hsz hk => ?_
  have I2 : Inv X pins σ H1 { s1 with heap := h' } := I1.kept (t' := s1.toks) hk
  refine wpAny_pyIter_enum he ⟨s1.heap.objs.size + 1, [s1.heap.objs.size + 1, s1.heap.objs.size], _, Ite X.K a, H1, rfl, I2, turn_enum a _ _ (Nat.succ_ne_self _), ⟨_, he, hit⟩, fun b hb => ?_, q⟩
  have hb' : s1.heap.objs.size ≤ b := by
    rcases List.mem_cons.mp hb with z | hb
    · rw [z]; exact Nat.le_succ _
    · rw [List.mem_singleton.mp hb]; exact Nat.le_refl _
  exact I1.fpOk hb' (I1.hok.fresh hb')
/-- over a list that the body leaves as it is -/
theorem for_enum {K : PySem.W.Frag} {a : Addr} {xs : List V} {g : TG} {tb : TS} {D : Ends} {σ : St} {H : Hp} (Pv : Nat → St → Hp → Prop) (h0 : Pv 0 σ H) (hl : ∀ i σ H, i ≤ xs.length → Pv i σ H → SqL K H a xs)
    (hs : ∀ i x p σ H, xs[i]? = some x → Pv i σ H → H p = none → g (.ref p) σ (upd H p (.tup [.int (i : Int), x])) fun σ2 H2 => tb { D with nx := Pv (i + 1), ct := Pv (i + 1), bk := D.nx } σ2 H2) (hd : ∀ σ H, Pv xs.length σ H → D.nx σ H) :
    ∃ W : Nat → Nat → St → Hp → Prop, (∃ m, W 0 m σ H) ∧ ∀ i m σ H, W i m σ H →
      ((Ite K a).stop i H ∧ D.nx σ H) ∨ ((Ite K a).go i H ∧ ∃ N : St → Hp → Prop, (∀ σ' H', N σ' H' → ∃ m', m' < m ∧ W (i + 1) m' σ' H') ∧ ∀ x H', (Ite K a).yld i H x H' → g x σ H' fun σ2 H2 => tb { D with nx := N, ct := N, bk := D.nx } σ2 H2) := by
  refine ⟨fun i m σ H => m = xs.length - i ∧ i ≤ xs.length ∧ Pv i σ H, ⟨xs.length, by simp, Nat.zero_le _, h0⟩, ?_⟩
  rintro i m σ H ⟨rfl, hi, p⟩
  have q := hl i σ H hi p
  by_cases hlt : i < xs.length
  · refine .inr ⟨⟨xs, xs[i], q, by simp [hlt]⟩, Pv (i + 1), fun σ' H' p' => ⟨xs.length - (i + 1), by omega, rfl, hlt, p'⟩, fun x H' y => ?_⟩
    obtain ⟨pa, v, hn, e, e2, y⟩ := y
    subst e e2
    exact hs i v pa σ H (y xs q) p hn
  · have e : i = xs.length := by omega
    subst e
    exact .inl ⟨⟨xs, q, Nat.le_refl _⟩, hd σ H p⟩
end L2

namespace L2
open PySem PySem.Spec PyProof.Rows
/-! ### list comprehensions -/
abbrev NoX : Value → Shared → Prop := fun _ _ => False
abbrev ifsOf (ifs : List Expr) (env : Env) : Sem Bool :=
  forIn ifs true fun c r => if r = true then do let ok ← isTrue c env (eval c env); pure (ForInStep.yield ok) else pure (ForInStep.yield r)
/-- the walk of a comprehension, turn by turn; nothing is raised -/
theorem comp_loop {prog : Program} {w : World} {A : Around} {elt tg iter : Expr} {ifs : List Expr} {scope : Scope} {pos : Pos} {itv acc : Value} {env : Env} {R : Result → Shared → Prop} {s0 : Shared} (J : Nat → Shared → Prop)
    (turn : ∀ k s, J k s → wpAny (model prog w) A (pyNext itv) (fun r s1 => match r with
      | none => R (.ok .next) s1
      | some v => wpAny (model prog w) A (letOwnedTupleGo tg itv v) (fun _ s2 => wpAny (model prog w) A (assign tg env v) (fun _ s3 => wpAny (model prog w) A (ifsOf ifs env) (fun ok s4 =>
          if ok = true then wpAny (model prog w) A (eval elt env) (fun x s5 => wpAny (model prog w) A (call (.builtin "list.append") [acc, x]) (fun _ s6 => ∃ m, m < k ∧ J m s6) NoX s5) NoX s4
          else ∃ m, m < k ∧ J m s4) NoX s3) NoX s2) NoX s1) NoX s)
    {k0 : Nat} (start : J k0 s0) : codeAny (model prog w) A (.compLoop (.ListComp elt [⟨tg, iter, ifs, 0⟩] scope pos) 0 itv acc env) R s0 := by
  refine codeAny_loop rfl J (fun k s hJ => ?_) k0 start
  show wpAny _ A ((compTurn (.ListComp elt [⟨tg, iter, ifs, 0⟩] scope pos) 0 itv acc env).onRaise (fun x => do noteFrame x env; theTreesLotGoes x)) _ _ s
  refine wpAny_noted ?_
  rw [compTurn_list]
  refine wpAny_bind (wpAny_standAt (wpAny_bind (wpAny_mono (turn k s hJ) (fun r s1 h1 => ?_) fun _ _ z => z.elim)))
  cases r with
  | none => exact wpAny_pure h1
  | some v =>
    refine wpAny_bind (wpAny_mono h1 (fun _ s2 h2 => wpAny_bind (wpAny_mono h2 (fun _ s3 h3 => wpAny_bind (wpAny_mono h3 (fun ok s4 h4 => ?_) fun _ _ z => z.elim)) fun _ _ z => z.elim)) fun _ _ z => z.elim)
    cases ok with
    | false => exact wpAny_pure ⟨rfl, h4⟩
    | true => exact wpAny_bind (wpAny_bind (wpAny_mono h4 (fun x s5 h5 => wpAny_bind (wpAny_mono h5 (fun _ s6 h6 => wpAny_pure (wpAny_pure ⟨rfl, h6⟩)) fun _ _ z => z.elim)) fun _ _ z => z.elim))

/-- what a closure takes: the cells of its free names -/
theorem closure_of {env : Env} : ∀ (names : List (Str × NameKind)) (acc : List (Str × Addr)), (∀ x ∈ names, x.2 = .free → ∃ c, env.cells.lookup x.1 = some c) →
    (∀ x c, acc.lookup x = some c → env.cells.lookup x = some c) →
    ∃ cl, (forIn names acc fun (x : Str × NameKind) (r : List (Str × Addr)) => (if (x.2 == NameKind.free) = true then do let c ← cellOf env x.1; pure (ForInStep.yield ((x.1, c) :: r)) else pure (ForInStep.yield r) : Sem (ForInStep (List (Str × Addr))))) = (pure cl : Sem (List (Str × Addr))) ∧
      (∀ x c, cl.lookup x = some c → env.cells.lookup x = some c) ∧ (∀ x, ((x, NameKind.free) ∈ names ∨ (acc.lookup x).isSome = true) → (cl.lookup x).isSome = true) ∧ (∀ x, (cl.lookup x).isSome = true → (x, NameKind.free) ∈ names ∨ (acc.lookup x).isSome = true)
  | [], acc, _, ha => ⟨acc, by rw [List.forIn_nil], ha, fun x h => h.resolve_left (by simp), fun x h => .inr h⟩
  | (n, k) :: r, acc, h, ha => by
    rw [List.forIn_cons]
    by_cases hk : k = .free
    · subst hk
      obtain ⟨c, hc⟩ := h (n, .free) List.mem_cons_self rfl
      obtain ⟨cl, e, h1, h2, h3⟩ := closure_of r ((n, c) :: acc) (fun x hx => h x (List.mem_cons_of_mem _ hx)) (fun x d hd => by
        rw [List.lookup_cons] at hd
        cases hb : x == n with
        | true => rw [hb] at hd; cases hd; rw [eq_of_beq hb]; exact hc
        | false => rw [hb] at hd; exact ha x d hd)
      refine ⟨cl, ?_, h1, fun x hx => h2 x ?_, fun x hx => ?_⟩
      · have e1 : cellOf env n = (pure c : Sem Addr) := by unfold cellOf; rw [hc]
        simp only [beq_self_eq_true, if_true, e1, pure_bind]
        exact e
      · rcases hx with hx | hx
        · rcases List.mem_cons.mp hx with z | hx
          · cases z; exact .inr (by simp)
          · exact .inl hx
        · refine .inr ?_
          rw [List.lookup_cons]
          cases x == n <;> simp [hx]
      · rcases h3 x hx with z | z
        · exact .inl (List.mem_cons_of_mem _ z)
        · rw [List.lookup_cons] at z
          cases hb : x == n with
          | true => rw [eq_of_beq hb]; exact .inl List.mem_cons_self
          | false => rw [hb] at z; exact .inr z
    · have hb : (k == NameKind.free) = false := by simpa using hk
      obtain ⟨cl, e, h1, h2, h3⟩ := closure_of r acc (fun x hx => h x (List.mem_cons_of_mem _ hx)) ha
      refine ⟨cl, ?_, h1, fun x hx => h2 x ?_, fun x hx => ?_⟩
      · simp only [hb, Bool.false_eq_true, if_false, pure_bind]
        exact e
      · rcases hx with hx | hx
        · rcases List.mem_cons.mp hx with z | hx
          · cases z; exact absurd rfl hk
          · exact .inl hx
        · exact .inr hx
      · rcases h3 x hx with z | z
        · exact .inl (List.mem_cons_of_mem _ z)
        · exact .inr z
theorem closureFor_ex {scope : Scope} {env : Env} (h : ∀ x ∈ scope.names, x.2 = .free → ∃ c, env.cells.lookup x.1 = some c) :
    ∃ cl, closureFor scope env = pure cl ∧ (∀ x c, cl.lookup x = some c → env.cells.lookup x = some c) ∧ (∀ x, (x, NameKind.free) ∈ scope.names → ∃ c, cl.lookup x = some c) ∧ ∀ x c, cl.lookup x = some c → (x, NameKind.free) ∈ scope.names := by
  obtain ⟨cl, e, h1, h2, h3⟩ := closure_of (env := env) scope.names [] h (fun x c z => by simp at z)
  refine ⟨cl, ?_, h1, fun x hx => Option.isSome_iff_exists.mp (h2 x (.inl hx)), fun x c hc => (h3 x (by rw [hc]; rfl)).resolve_right (by simp)⟩
  unfold closureFor
  simp only [bind_pure]
  exact e

/-- the names of a block within a def whose names are osc's -/
structure CompScope (osc scope : Scope) (N own : List Str) (ix : List Nat) : Prop where
  kind : scope.kind = .function
  okind : osc.kind = .function
  nocell : ∀ x ∈ scope.names, x.2 ≠ .cell
  loc : ∀ x ∈ scope.names, x.2 = .local → scope.names.lookup x.1 = some .local
  fre : ∀ x ∈ scope.names, x.2 = .free → scope.names.lookup x.1 = some .free
  free : ∀ x ∈ scope.names, x.2 = .free → osc.names.lookup x.1 = some .cell ∨ osc.names.lookup x.1 = some .free
  mine : ∀ x ∈ own, scope.names.lookup x = some .local
  out : ∀ i ∈ ix, scope.names.lookup (N.getD i Str.empty) ≠ some .local
  nd : (own ++ ix.map fun i => N.getD i Str.empty).Nodup
def compN (N own : List Str) (ix : List Nat) : List Str := own ++ ix.map fun i => N.getD i Str.empty
def compSt (own : List Str) (ix : List Nat) (σ : St) : St := own.map (fun _ => none) ++ ix.map fun i => (σ.getD i none)
/-- the context of the block: C its names, fp the iterator, s and H its entry -/
def compCx (X : Cx) (N own : List Str) (ix : List Nat) (scope : Scope) (cl : List (Str × Addr)) (C : Addr) (fp : List Addr) (s : Shared) (H : Hp) : Cx :=
  { prog := X.prog, w := X.w, K := X.K, mg := X.mg, base := X.base, A := X.A, N := compN N own ix, s₀ := s, H₀ := H, env := compEnvC scope cl C X.env, outer := X.stack, stack := X.stack, ex := fp,
    fn := fun x => own.contains x, calm := X.calm, pn := X.pn, xe := NoX }
theorem lookup_map_kind {f : Str → NameKind → NameKind} : ∀ (l : List (Str × NameKind)) (x : Str), (l.map fun (p : Str × NameKind) => (p.1, f p.1 p.2)).lookup x = (l.lookup x).map (f x)
  | [], _ => rfl
  | (n, k) :: r, x => by
    rw [List.map_cons, List.lookup_cons, List.lookup_cons]
    cases hb : x == n with
    | true => rw [eq_of_beq hb]; rfl
    | false => exact lookup_map_kind r x
theorem relabel_lookup (scope : Scope) (env : Env) (x : Str) : (relabel scope env).names.lookup x = (scope.names.lookup x).map fun k => if (k == .free && env.scope.kind == .function && env.kindOf x == some .cell) = true then .cell else k := by
  have e : (relabel scope env).names = scope.names.map fun (p : Str × NameKind) => (p.1, if (p.2 == .free && env.scope.kind == .function && env.kindOf p.1 == some .cell) = true then .cell else p.2) := by
    unfold relabel
    apply List.map_congr_left
    intro p _
    obtain ⟨n, k⟩ := p
    dsimp only
    split <;> rfl
  rw [e]
  exact lookup_map_kind (f := fun n k => if (k == .free && env.scope.kind == .function && env.kindOf n == some .cell) = true then .cell else k) scope.names x
section
variable {X : Cx} {pins : List (Addr × Obj)} {σ : St} {H : Hp} {s : Shared} {osc scope : Scope} {N own : List Str} {ix : List Nat} {cl : List (Str × Addr)} {C : Addr} {fp : List Addr} {h' : Heap} {tk : Nat}
/-- the names of the block that are the def's -/
theorem comp_outer (S : CompScope osc scope N own ix) (hsc : X.env.scope = osc) {x : Str} (h : (relabel scope X.env).names.lookup x = some .cell ∨ (relabel scope X.env).names.lookup x = some .free) :
    (x, NameKind.free) ∈ scope.names ∧ (X.env.kindOf x = some .cell ∨ X.env.kindOf x = some .free) := by
  rw [relabel_lookup] at h
  cases e : scope.names.lookup x with
  | none => rw [e] at h; simp at h
  | some k =>
    have hm := PySem.mem_of_lookup e
    have hk : k = .free := by
      rw [e] at h
      have hnc := S.nocell _ hm
      cases k with
      | free => rfl
      | cell => exact absurd rfl hnc
      | «local» => simp at h
      | globalImplicit => simp at h
      | globalExplicit => simp at h
    subst hk
    refine ⟨hm, ?_⟩
    have := S.free _ hm rfl
    rw [← hsc] at this
    exact this
theorem comp_inv (I : Inv X pins σ H s) (S : CompScope osc scope N own ix) (hsc : X.env.scope = osc) (hN : X.N = N)
    (c1 : ∀ x c, cl.lookup x = some c → X.env.cells.lookup x = some c) (c2 : ∀ x, (x, NameKind.free) ∈ scope.names → ∃ c, cl.lookup x = some c) (c3 : ∀ x c, cl.lookup x = some c → (x, NameKind.free) ∈ scope.names)
    (hf : ∀ b ∈ fp, FpOk X pins H b) (hfp : ∀ b ∈ fp, b < s.heap.objs.size) (hns : h'.Ns s.heap.objs.size fun _ => none) (hsb : Heap.SameBut s.heap.objs.size (s.heap.push { cls := .type "dict", data := .dict #[] }) h') :
    Inv (compCx X N own ix scope cl s.heap.objs.size fp s H) pins (compSt own ix σ) H { s with heap := h', toks := tk } := by
  have kp : ∀ b o, s.heap.get? b = some o → h'.get? b = some o := fun b o e => hsb.extBut b o (Nat.ne_of_lt (Heap.lt_size e)) (Heap.get?_push_of_some _ e)
  have nloc : ∀ x ∈ own, cl.lookup x = none := fun x hx => by
    cases e : cl.lookup x with
    | none => rfl
    | some c =>
      have h1 := S.fre _ (c3 x c e) rfl
      rw [S.mine x hx] at h1
      cases h1
  refine ⟨⟨I.ok.mod, ?_, I.ok.glob, I.ok.blt, Nat.le_refl _, fun x y c h1 h2 => I.ok.inj x y c (c1 x c h1) (c1 y c h2), fun x hx => ?_, fun x c hx hc => ?_, I.ok.hd, I.ok.frames, .inl rfl, fun b hb => ⟨?_, fun x c hc => ?_⟩, I.bs,
    Nat.le_trans I.ok.bsz I.sz, fun b o e hb => ?_, fun b hb hb2 => ?_, I.stack, I.stkFree⟩, rfl, I.bare, Un.kept kp, ⟨_, hns, fun i x v h1 h2 h3 => ?_⟩, fun x c hc => ?_, I.hok.fresh (Nat.le_refl _), fun x c hc => I.freeC x c (c1 x c hc), fun p hp => ?_, I.hok.kept kp, ?_⟩
  · show (relabel scope X.env).kind = .function
    exact S.kind
  · obtain ⟨h1, h2⟩ := comp_outer S hsc hx
    exact c2 x h1
  · have hx' : x ∈ own := by simpa [compCx] using hx
    have hc' : cl.lookup x = some c := hc
    rw [nloc x hx'] at hc'
    cases hc'
  · exact Nat.ne_of_lt (hfp b hb)
  · exact (hf b hb).2.2.2.2.1 x c (c1 x c hc)
  · obtain ⟨_, _, _, f3, _⟩ := hf b hb
    rcases f3 with z | z
    · exact I.ok.noex b o e z
    · exact absurd (Nat.lt_of_lt_of_le (Heap.lt_size e) (Nat.le_trans I.ok.bsz z)) (Nat.lt_irrefl _)
  · obtain ⟨_, f1, f2, _⟩ := hf b hb
    rcases List.mem_cons.mp (I.stkSub b hb2) with z | z
    · exact f1 z
    · exact f2 z
  · -- a name that is read in the block
    have hlen : (own.map fun _ => (none : Option V)).length = own.length := by simp
    have h1' : (own ++ ix.map fun i => N.getD i Str.empty)[i]? = some x := h1
    have h2' : (own.map (fun _ => (none : Option V)) ++ ix.map fun i => (σ.getD i none))[i]? = some (some v) := h2
    by_cases hi : i < own.length
    · rw [List.getElem?_append_left (by rw [hlen]; exact hi), List.getElem?_map] at h2'
      cases e : own[i]? with
      | none => rw [e] at h2'; cases h2'
      | some y => rw [e] at h2'; cases h2'
    · rw [List.getElem?_append_right (by rw [hlen]; omega), hlen, List.getElem?_map] at h2'
      rw [List.getElem?_append_right (by omega), List.getElem?_map] at h1'
      cases e : ix[i - own.length]? with
      | none => rw [e] at h2'; cases h2'
      | some j =>
        rw [e] at h1' h2'
        have h1'' : N.getD j Str.empty = x := Option.some.inj h1'
        have h2'' : σ.getD j none = some v := Option.some.inj h2'
        have hσ : σ[j]? = some (some v) := by
          rw [List.getD_eq_getElem?_getD] at h2''
          cases q : σ[j]? with
          | none => rw [q] at h2''; cases h2''
          | some y => rw [q] at h2''; rw [show y = some v from h2'']
        have hj : j < X.N.length := by rw [← I.len]; exact (List.getElem?_eq_some_iff.mp hσ).1
        have hNj : X.N[j]? = some x := by
          rw [← h1'', ← hN, List.getD_eq_getElem?_getD, List.getElem?_eq_getElem hj]
          rfl
        have hx3 : (relabel scope X.env).names.lookup x = some .cell ∨ (relabel scope X.env).names.lookup x = some .free := by
          rcases (show (relabel scope X.env).names.lookup x = some .local ∨ (relabel scope X.env).names.lookup x = some .cell ∨ (relabel scope X.env).names.lookup x = some .free from h3) with z | z
          · exfalso
            rw [relabel_lookup] at z
            have ho := S.out j (List.mem_of_getElem? e)
            rw [h1''] at ho
            cases q : scope.names.lookup x with
            | none => rw [q] at z; cases z
            | some k =>
              rw [q] at z ho
              simp only [Option.map_some, Option.some.injEq] at z
              split at z
              · cases z
              · exact ho (by rw [z])
          · exact z
        obtain ⟨hfr, hk⟩ := comp_outer S hsc hx3
        obtain ⟨m, hn, hl⟩ := I.loc
        obtain ⟨u, r, l⟩ := hl j x v hNj hσ (.inr hk)
        refine ⟨u, r, .inr ⟨hx3, ?_⟩⟩
        obtain ⟨c, hc⟩ := c2 x hfr
        refine ⟨c, hc, ?_⟩
        rcases l with ⟨z, _⟩ | ⟨_, c', hc', hcell⟩
        · rcases hk with q | q <;> (rw [q] at z; cases z)
        · rw [c1 x c hc] at hc'
          cases hc'
          obtain ⟨o, ho, hd⟩ := hcell
          exact ⟨o, kp _ _ ho, hd⟩
  · obtain ⟨v, o, ho, hd⟩ := I.cell x c (c1 x c hc)
    exact ⟨v, o, kp _ _ ho, hd⟩
  · obtain ⟨e, n, ne, nf, d⟩ := I.pin p hp
    refine ⟨kp _ _ e, n, Nat.ne_of_lt (Heap.lt_size e), fun hb => ?_, d⟩
    rcases List.mem_cons.mp (I.stkSub p.1 hb) with z | z
    · exact ne z
    · exact nf z
  · show (own.map (fun _ => (none : Option V)) ++ ix.map fun i => (σ.getD i none)).length = (own ++ ix.map fun i => N.getD i Str.empty).length
    simp
end

/-- the tests of a block -/
def PIfs (Y : Cx) (ifs : List Expr) (t : TT) : Prop :=
  ∀ (pins : List (Addr × Obj)) (s : Shared) (σ : St) (H : Hp) (Q : Bool → Hp → Prop), Inv Y pins σ H s → t σ H Q → wpAny (model Y.prog Y.w) Y.A (ifsOf ifs Y.env) (TP Y pins σ Q) Y.xe s
def tNoIf : TT := fun _ H Q => Q true H
theorem pifs_nil {Y : Cx} : PIfs Y [] tNoIf := fun _ _ _ H _ I h => wpAny_tests_nil ⟨H, I, h⟩
theorem pifs_one {Y : Cx} {c : Expr} {t : TT} (hc : PT Y c t) : PIfs Y [c] t := fun pins s σ H Q I h => wpAny_tests_one (hc pins s σ H Q I h)

/-- how a comprehension is read: D the new list; W the word between two turns -/
def tComp (own : List Str) (ix : List Nat) (wi : TI) (g : TG) (tc : TT) (te : TE) : TE := fun σ H Q => wi σ H fun J H1 => ∀ D, H1 D = none → ∃ W : Nat → Nat → St → Hp → Prop, (∃ m, W 0 m (compSt own ix σ) (upd H1 D (.lst []))) ∧
  ∀ i m τ H, W i m τ H → (J.stop i H ∧ Q (.ref D) H) ∨ (J.go i H ∧ ∀ x H', J.yld i H x H' → g x τ H' fun τ2 H2 => tc τ2 H2 fun b H3 =>
    if b = true then te τ2 H3 fun y H4 => ∃ zs, H4 D = some (.lst zs) ∧ zs.length < sizeLine ∧ ∃ m', m' < m ∧ W (i + 1) m' τ2 (upd H4 D (.lst (zs ++ [y]))) else ∃ m', m' < m ∧ W (i + 1) m' τ2 H3)

section
variable {X : Cx} {elt tg iter : Expr} {ifs : List Expr} {osc scope : Scope} {pos : Pos} {N own : List Str} {ix : List Nat} {wi : TI} {g : TG} {tc : TT} {te : TE}
/-- the block from the iterator on -/
theorem comp_block {pins : List (Addr × Obj)} {σ : St} {s2 : Shared} {H1 : Hp} {Q : VK} {J : It} {fp : List Addr} {it : Addr} {tn : Nat → Heap → Prop} {cl : List (Str × Addr)} {RR : Value → Addr → Result → Shared → Prop} {E : Value → Shared → Prop} (hcalm : X.calm = true)
    (S : CompScope osc scope N own ix) (hsc : X.env.scope = osc) (hN : X.N = N)
    (c1 : ∀ x c, cl.lookup x = some c → X.env.cells.lookup x = some c) (c2 : ∀ x, (x, NameKind.free) ∈ scope.names → ∃ c, cl.lookup x = some c) (c3 : ∀ x c, cl.lookup x = some c → (x, NameKind.free) ∈ scope.names)
    (hg : ∀ cl C fp s H, PG (compCx X N own ix scope cl C fp s H) tg g) (hc : ∀ cl C fp s H, PIfs (compCx X N own ix scope cl C fp s H) ifs tc) (he : ∀ cl C fp s H, PE (compCx X N own ix scope cl C fp s H) elt te)
    (I2 : Inv X pins σ H1 s2) (T : Turn X.prog X.w X.K tg J fp it tn) (st2 : tn 0 s2.heap) (hf : ∀ b ∈ fp, FpOk X pins H1 b)
    (hq : ∀ D, H1 D = none → ∃ W : Nat → Nat → St → Hp → Prop, (∃ m, W 0 m (compSt own ix σ) (upd H1 D (.lst []))) ∧
      ∀ i m τ H, W i m τ H → (J.stop i H ∧ Q (.ref D) H) ∨ (J.go i H ∧ ∀ x H', J.yld i H x H' → g x τ H' fun τ2 H2 => tc τ2 H2 fun b H3 =>
        if b = true then te τ2 H3 fun y H4 => ∃ zs, H4 D = some (.lst zs) ∧ zs.length < sizeLine ∧ ∃ m', m' < m ∧ W (i + 1) m' τ2 (upd H4 D (.lst (zs ++ [y]))) else ∃ m', m' < m ∧ W (i + 1) m' τ2 H3))
    (hR : ∀ D C s' H', Inv X pins σ H' s' → (∃ m, s'.heap.Ns C m) → FpOk X pins H' C → Q (.ref D) H' → RR (.ref D) C (.ok .next) s') :
    wpAny (model X.prog X.w) X.A (newList []) (fun acc s3 => wpAny (model X.prog X.w) X.A (newFunctionEnv scope X.env.globals cl [] X.env.qual none .none (some X.env)) (fun cenv s4 =>
      codeAny (model X.prog X.w) X.A (.compStart (.ListComp elt [⟨tg, iter, ifs, 0⟩] scope pos) 0 (.ref it) acc { cenv with scope := relabel scope X.env }) (RR acc cenv.locals) s4) E s3) E s2 := by
  refine wpAny_newObj_type (wpAny_newFunctionEnv S.nocell (fun y hy => absurd hy (by simp)) (fun h1 hns hsb => ?_) S.kind)
  have hD : H1 s2.heap.objs.size = none := I2.hok.fresh (Nat.le_refl _)
  have I3 : Inv X pins σ (upd H1 s2.heap.objs.size (.lst [])) { s2 with heap := s2.heap.push { cls := .type "list", data := .seq ([] : List Value).toArray } } := I2.lnew (t' := s2.toks) .nil (Nat.zero_le _)
  obtain ⟨W, ⟨m0, w0⟩, turn⟩ := hq _ hD
  have hfs : ∀ b ∈ fp, b < s2.heap.objs.size := fun b hb => by
    obtain ⟨o, e, _⟩ := T.obj 0 _ st2 b hb
    exact Heap.lt_size e
  have hf3 : ∀ b ∈ fp, FpOk X pins (upd H1 s2.heap.objs.size (.lst [])) b := fun b hb => by
    obtain ⟨f0, r⟩ := hf b hb
    exact ⟨by rw [upd_ne (Nat.ne_of_lt (hfs b hb))]; exact f0, r⟩
  have hfs3 : ∀ b ∈ fp, b < (s2.heap.push { cls := .type "list", data := .seq ([] : List Value).toArray }).objs.size := fun b hb => by
    rw [Heap.size_push]; exact Nat.lt_succ_of_lt (hfs b hb)
  have st3 : tn 0 h1 := T.keep 0 _ _ st2 fun b hb o e => hsb.extBut b o (Nat.ne_of_lt (hfs3 b hb)) (Heap.get?_push_of_some _ (Heap.get?_push_of_some _ e))
  have IY := comp_inv (tk := ({ s2 with heap := s2.heap.push { cls := .type "list", data := .seq ([] : List Value).toArray } } : Shared).toks + ([] : List (Str × Value)).length) I3 S hsc hN c1 c2 c3 hf3 hfs3 hns hsb
  -- the context from now on
  generalize hs3 : ({ s2 with heap := s2.heap.push { cls := .type "list", data := .seq ([] : List Value).toArray } } : Shared) = s3 at I3 IY hns hsb ⊢
  have hfs3 : ∀ b ∈ fp, b < s3.heap.objs.size := fun b hb => by rw [← hs3]; exact hfs3 b hb
  have hC : s3.heap.objs.size = s2.heap.objs.size + 1 := by rw [← hs3]; exact Heap.size_push ..
  have fpY : ∀ {H' : Hp}, (∀ b ∈ fp, H' b = none) → ∀ b ∈ fp, FpOk (compCx X N own ix scope cl s3.heap.objs.size fp s3 (upd H1 s2.heap.objs.size (.lst []))) pins H' b := fun {H'} hn b hb => by
    obtain ⟨_, f1, f2, f3, f4, f5⟩ := hf b hb
    refine ⟨hn b hb, Nat.ne_of_lt (hfs3 b hb), fun z => ?_, .inl hb, fun x c e => f4 x c (c1 x c e), f5⟩
    rcases List.mem_cons.mp (I2.stkSub b z) with q | q
    · exact f1 q
    · exact f2 q
  have loop : ∀ s5 : Shared, s5 = { s3 with heap := h1, toks := s3.toks + ([] : List (Str × Value)).length } →
      codeAny (model X.prog X.w) X.A (.compLoop (.ListComp elt [⟨tg, iter, ifs, 0⟩] scope pos) 0 (.ref it) (.ref s2.heap.objs.size) (compEnvC scope cl s3.heap.objs.size X.env)) (RR (.ref s2.heap.objs.size) s3.heap.objs.size) s5 := by
    rintro s5 rfl
    refine comp_loop (fun k s' => ∃ i τ H', Inv (compCx X N own ix scope cl s3.heap.objs.size fp s3 (upd H1 s2.heap.objs.size (.lst []))) pins τ H' s' ∧ tn i s'.heap ∧ (∀ b ∈ fp, H' b = none) ∧ W i k τ H') (fun k s6 hJ => ?_) ⟨0, _, _, IY, st3, fun b hb => (hf3 b hb).1, w0⟩
    obtain ⟨i, τ, H6, I6, st6, fr6, w6⟩ := hJ
    rcases turn i k τ H6 w6 with ⟨stop, qn⟩ | ⟨go, step⟩
    · refine thn (T.done (compCx X N own ix scope cl s3.heap.objs.size fp s3 (upd H1 s2.heap.objs.size (.lst []))) rfl rfl rfl hcalm i pins s6 τ H6 NoX I6 (fpY fr6) st6 stop) fun r s7 ⟨hr, I7⟩ => ?_
      subst hr
      have IX : Inv X pins σ H6 s7 := I3.call' (ch := fp) I7.os I7.base I7.hok I7.bare fun b hb => by
        obtain ⟨_, f1, _, f3, f4, f5⟩ := hf b hb
        exact ⟨f3, f1, f4, f5⟩
      obtain ⟨mC, hnC, _⟩ := I7.loc
      refine hR _ _ s7 H6 IX ⟨mC, hnC⟩ ⟨I7.free, Nat.ne_of_gt (Nat.lt_of_lt_of_le I3.lt (Nat.le_refl _)), I3.nofs (Nat.le_refl _), .inr I3.sz, fun x c e z => ?_, fun p hp z => ?_⟩ qn
      · obtain ⟨v, q⟩ := I3.cell x c e
        exact absurd (Nat.lt_of_lt_of_le q.lt (by rw [z]; exact Nat.le_refl _)) (Nat.lt_irrefl _)
      · exact absurd (Nat.lt_of_lt_of_le (Heap.lt_size (I3.pin p hp).1) (by rw [z]; exact Nat.le_refl _)) (Nat.lt_irrefl _)
    · refine thn (T.item (compCx X N own ix scope cl s3.heap.objs.size fp s3 (upd H1 s2.heap.objs.size (.lst []))) rfl rfl rfl hcalm i pins s6 τ H6 NoX I6 (fpY fr6) st6 go) fun r s7 ⟨u, hr, h7⟩ => ?_
      subst hr
      refine thn h7 fun _ s8 ⟨x, H8, I8, r8, y8, st8, fr8⟩ => ?_
      have I8' := I8.pinned (fpY fr8) (T.obj _ _ st8)
      have again : ∀ {s9 : Shared} {τ9 : St} {H9 : Hp}, Inv (compCx X N own ix scope cl s3.heap.objs.size fp s3 (upd H1 s2.heap.objs.size (.lst []))) (pins ++ pinsAt fp s8.heap) τ9 H9 s9 → (∃ m', m' < k ∧ W (i + 1) m' τ9 H9) →
          ∃ m, m < k ∧ ∃ i τ H', Inv (compCx X N own ix scope cl s3.heap.objs.size fp s3 (upd H1 s2.heap.objs.size (.lst []))) pins τ H' s9 ∧ tn i s9.heap ∧ (∀ b ∈ fp, H' b = none) ∧ W i m τ H' := fun {s9 τ9 H9} I9 ⟨m', hm, w9⟩ => by
        refine ⟨m', hm, i + 1, τ9, H9, I9.unpinned, T.keep _ _ _ st8 fun b hb o e => (I9.pin (b, o) (List.mem_append_right _ (List.mem_append_right _ (mem_pinsAt hb e)))).1, fun b hb => ?_, w9⟩
        obtain ⟨o, e, d⟩ := T.obj _ _ st8 b hb
        exact (I9.pin (b, o) (List.mem_append_right _ (List.mem_append_right _ (mem_pinsAt hb e)))).2.1
      refine thn (hg cl _ fp s3 _ _ s8 τ H8 x u _ I8' r8 (step x H8 y8)) fun _ s9 ⟨τ9, H9, I9, q9⟩ => ?_
      refine thn (hc cl _ fp s3 _ _ s9 τ9 H9 _ I9 q9) fun b s10 ⟨H10, I10, q10⟩ => ?_
      cases b with
      | false => exact again I10 q10
      | true =>
        refine thn (he cl _ fp s3 _ _ s10 τ9 H10 _ I10 q10) fun y s11 ⟨v, H11, I11, r11, zs, hz, hl, hw⟩ => ?_
        exact thn (mt_append (X := compCx X N own ix scope cl s3.heap.objs.size fp s3 (upd H1 s2.heap.objs.size (.lst []))) _ s11 τ9 H11 (.ref s2.heap.objs.size) [v] _ [y] (fun _ H' => ∃ m', m' < k ∧ W (i + 1) m' τ9 H') I11 rfl (.cons r11 .nil) ⟨_, zs, v, rfl, rfl, hz, hl, hw⟩) fun _ s12 ⟨_, H12, I12, _, q12⟩ => again I12 q12
  have st5 := fun (s5 : Shared) (h5 : s5 = { s3 with heap := h1, toks := s3.toks + ([] : List (Str × Value)).length }) => T.self X.A 0 s5 (fun it' s' => codeAny (model X.prog X.w) X.A (.compLoop (.ListComp elt [⟨tg, iter, ifs, 0⟩] scope pos) 0 it' (.ref s2.heap.objs.size) (compEnvC scope cl s3.heap.objs.size X.env)) (RR (.ref s2.heap.objs.size) s3.heap.objs.size) s')
    (notedBy (model X.prog X.w) X.A (compEnvC scope cl s3.heap.objs.size X.env) fun x s' => RR (.ref s2.heap.objs.size) s3.heap.objs.size (.error x) s') (by rw [h5]; exact st3) (loop s5 h5)
  have fin := codeAny_compStart_list (loop _ rfl) (st5 _ rfl)
  exact fin

variable (hcalm : X.calm = true) (S : CompScope osc scope N own ix) (hsc : X.env.scope = osc) (hN : X.N = N) (hi : PI X tg iter wi)
  (hg : ∀ cl C fp s H, PG (compCx X N own ix scope cl C fp s H) tg g) (hc : ∀ cl C fp s H, PIfs (compCx X N own ix scope cl C fp s H) ifs tc) (he : ∀ cl C fp s H, PE (compCx X N own ix scope cl C fp s H) elt te)
  (hs : ∀ x, foldedSetIterable iter X.env x = pure x)
include hcalm S hsc hN hi hg hc he hs
theorem comp_clos {pins : List (Addr × Obj)} {σ : St} {s : Shared} {H : Hp} (I : Inv X pins σ H s) : ∃ cl, closureFor scope X.env = pure cl ∧ (∀ x c, cl.lookup x = some c → X.env.cells.lookup x = some c) ∧ (∀ x, (x, NameKind.free) ∈ scope.names → ∃ c, cl.lookup x = some c) ∧ ∀ x c, cl.lookup x = some c → (x, NameKind.free) ∈ scope.names := by
  refine closureFor_ex fun x hx hk => I.ok.has x.1 ?_
  have := S.free x hx hk
  rw [← hsc] at this
  exact this
/-- [elt for tg in iter if ..] -/
theorem pe_comp : PE X (.ListComp elt [⟨tg, iter, ifs, 0⟩] scope pos) (tComp own ix wi g tc te) := by
  intro pins s σ H Q I h
  obtain ⟨cl, hcl, c1, c2, c3⟩ := comp_clos hcalm S hsc hN hi hg hc he hs I
  rw [eval_ListComp]
  refine wpAny_comprehension_free (use := none) rfl hs hcl S.kind S.loc (thn (hi pins s σ H _ I h) fun xv s1 h1 => thn h1 fun itv s2 h2 => ?_)
  obtain ⟨it, fp, tn, J, H2, e, I2, T, st2, f2, hq⟩ := h2
  subst e
  refine comp_block (Q := Q) (RR := fun acc C => compPost (model X.prog X.w) X.A X.xe none (EP X pins σ Q) acc C) hcalm S hsc hN c1 c2 c3 hg hc he I2 T st2 f2 hq fun D C s' H' I' ⟨mC, hn⟩ fC q => ?_
  refine ⟨mC, hn, fun h' hsb => ⟨.ref D, H', I'.turned (t' := s'.toks) (fun b o hb e => hsb.extBut b o hb e) fC.1 fC.2.1 fC.2.2.2.1 fC.2.2.2.2.1 fC.2.2.2.2.2, rfl, q⟩⟩
/-- x = [elt for tg in iter if ..], where the store comes ahead of the block's own names' end -/
theorem ps_comp {i : Nat} {x : Str} {px spos : Pos} (nd : X.N.Nodup) (hxi : X.N[i]? = some x) (hx : Loc X.env.scope x) (hsw : swapsWith (.ListComp elt [⟨tg, iter, ifs, 0⟩] scope pos) (some (.Name x px)) spos.line X.env = pure true)
    (hfn : X.fn x = true ∨ X.env.scope.names.lookup x = some .local) : PS X (.Assign [.Name x px] (.ListComp elt [⟨tg, iter, ifs, 0⟩] scope pos) spos) (tAsg (tComp own ix wi g tc te) (gName i)) := by
  intro pins s σ H D I h
  obtain ⟨cl, hcl, c1, c2, c3⟩ := comp_clos hcalm S hsc hN hi hg hc he hs I
  rw [exec_Assign_Name_used _ _ _ _ hsw]
  refine wpAny_bind (wpAny_standAt (wpAny_bind ?_))
  show wpAny _ X.A (do let _ ← comprehension (.ListComp elt [⟨tg, iter, ifs, 0⟩] scope pos) scope X.env _ (newList []) false (eval iter X.env) (some (assign (.Name x px) X.env))) _ _ s
  refine wpAny_bind (thn (wpAny_comprehension_free (use := some (assign (.Name x px) X.env)) (Q := fun _ s' => SP X pins D .next s') rfl hs hcl S.kind S.loc (thn (hi pins s σ H _ I h) fun xv s1 h1 => thn h1 fun itv s2 h2 => ?_)) fun _ s' hq => wpAny_pure (wpAny_pure hq))
  obtain ⟨it, fp, tn, J, H2, e, I2, T, st2, f2, hq⟩ := h2
  subst e
  refine comp_block (Q := fun x H1 => gName i x σ H1 D.nx) (RR := fun acc C => compPost (model X.prog X.w) X.A X.xe (some (assign (.Name x px) X.env)) (fun _ s' => SP X pins D .next s') acc C) hcalm S hsc hN c1 c2 c3 hg hc he I2 T st2 f2 hq fun Da C s' H' I' ⟨mC, hn⟩ fC q => ?_
  refine wpAny_assign_Name (store_ok2 I' nd hxi hx (v := .ref Da) rfl (fun s'' I'' hsb => ?_) hfn)
  obtain ⟨a, hsb, ha⟩ := hsb
  have haC : C ≠ a := fun z => by
    rcases ha with ha | ha
    · exact fC.2.1 (z.trans ha)
    · exact fC.2.2.2.2.1 x a ha z.symm
  refine ⟨mC, hn.sameBut hsb haC, fun h' hs2 => ⟨_, H', I''.turned (t' := s''.toks) (fun b o hb e => hs2.extBut b o hb e) fC.1 fC.2.1 fC.2.2.2.1 fC.2.2.2.2.1 fC.2.2.2.2.2, q⟩⟩
end
end L2

namespace L2
open PySem PySem.Spec PyProof.Rows Fb
/-! ### sorting -/
/-- the order in which the places 0 .. n - 1 come out, by their keys -/
def sortIx {O : KeyOrd} (κ : Nat → O.α) (n : Nat) : List Nat := if n < 2 then List.range n else (runK (ltK κ) (PySem.W.kas_sort n)).toList
theorem sortIx_perm {O : KeyOrd} (κ : Nat → O.α) (n : Nat) : (sortIx κ n).Perm (List.range n) := by
  unfold sortIx
  split
  · exact List.Perm.refl _
  · have h := (ans_sort (κ := κ) (N := n) (by omega)).of_run
    have := Array.perm_iff_toList_perm.mp h.1
    simpa using this
theorem sortIx_up {O : KeyOrd} (κ : Nat → O.α) (n : Nat) : (sortIx κ n).Pairwise fun i j => O.kle (κ i) (κ j) := by
  unfold sortIx
  split
  · rename_i hn
    have : n = 0 ∨ n = 1 := by omega
    rcases this with rfl | rfl
    · exact List.Pairwise.nil
    · exact List.pairwise_singleton _ _
  · have h := (ans_sort (κ := κ) (N := n) (by omega)).of_run
    have hz := h.1.size
    rw [List.pairwise_iff_getElem]
    intro i j hi hj hij
    rw [Array.length_toList] at hi hj
    have q := h.2 i j (Nat.le_of_lt hij) (by omega)
    unfold key at q
    rw [getD_eq, getD_eq, Array.getElem?_eq_getElem hi, Array.getElem?_eq_getElem hj] at q
    simpa using q
theorem sortIx_len {O : KeyOrd} (κ : Nat → O.α) (n : Nat) : (sortIx κ n).length = n := by
  have := (sortIx_perm κ n).length_eq
  simpa using this
theorem Ans.wp {α : Type} {cmp : Nat → Nat → (Bool → Shared → Prop) → Shared → Prop} {ok : Nat → Prop} {lt : Nat → Nat → Bool} {Q : α → Prop} {G : α → Shared → Prop} {s : Shared}
    (hc : ∀ i j C, ok i → ok j → C (lt i j) s → cmp i j C s) (hG : ∀ a, Q a → G a s) : ∀ {t : PySem.W.KasT α}, Ans ok lt t Q → t.kasWp cmp G s
  | .ret a, h => hG a h
  | .ask i j k, h => hc i j _ h.1 h.2.1 (Ans.wp hc hG (t := k (lt i j)) h.2.2)
section
variable {prog : Program} {w : World} {A : Around} {E : Value → Shared → Prop} {s : Shared} {O : KeyOrd} {κ : Nat → O.α} {κk : SortKind} {ks vs : List Value}
/-- the runs of a sort whose comparisons are known, the state as it is -/
theorem sort_runs {Q : SortSt → Shared → Prop} (hl : ks.length = vs.length) (h2 : 2 ≤ vs.length) (h64 : vs.length < 64)
    (hlt : ∀ i j C, i < vs.length → j < vs.length → C (O.blt (κ i) (κ j)) s → wpAny (model prog w) A (keyLt' κk (ks.getD i Value.none) (ks.getD j Value.none)) C NoX s)
    (h : ∀ st', (arrOf st').map (·.2) = List.toArray ((sortIx κ vs.length).map fun i => vs.getD i Value.none) → failedOf st' = none → Q st' s) :
    wpAny (model prog w) A ((sortRuns').run (SortSt.mk' κk (ks.toArray.zip vs.toArray) #[] 7 none)) (fun r s' => Q r.2 s') E s := by
  refine PySem.W.kat_run hl h2 h64 (G := fun p s' => s' = s ∧ p.toList = sortIx κ vs.length) (fun p st' s' hp har hf hg => ?_) ?_
  · obtain ⟨rfl, hg⟩ := hg
    refine h st' ?_ hf
    rw [PySem.W.kat_snds hl har, hg]
  · refine Ans.wp (Q := fun p => p = runK (ltK κ) (PySem.W.kas_sort vs.length) ∧ (All vs.length p ∧ Up κ p vs.length)) (fun i j C hi hj hC => hlt i j C hi hj hC) (fun p hp => ⟨rfl, ?_⟩) (ans_sort (κ := κ) (N := vs.length) (by omega)).run
    unfold sortIx
    rw [if_neg (by omega), hp.1]
theorem range_getD (l : List Value) : (List.range l.length).map (fun i => l.getD i Value.none) = l := by
  apply List.ext_getElem
  · simp
  · intro i h1 h2
    have hi : i < l.length := h2
    simp [hi]
theorem range_getDV (l : List V) : (List.range l.length).map (fun i => l.getD i V.non) = l := by
  apply List.ext_getElem
  · simp
  · intro i h1 h2
    have hi : i < l.length := h2
    simp [hi]
/-- the items behind a sort by keys, b: turned round -/
def sortedOf (b : Bool) (κ : Nat → O.α) (vs : List Value) : List Value := PySem.W.katRev b ((sortIx κ vs.length).map fun i => (PySem.W.katRev b vs).getD i Value.none)
theorem sortedOf_len (b : Bool) (vs : List Value) : (sortedOf b κ vs).length = vs.length := by
  unfold sortedOf; rw [PySem.W.kat_len, List.length_map, sortIx_len]
theorem katRev_katRev {α : Type} (b : Bool) (l : List α) : PySem.W.katRev b (PySem.W.katRev b l) = l := by
  unfold PySem.W.katRev; cases b <;> simp
/-- behind the keys: the sort, the key list emptied, the items put back -/
theorem sort_end {a kS : Addr} {b : Bool} {e e1 : Nat} {P : PySem.Fin → Shared → Prop} (hk : s.heap.get? kS = some (seqObj "list" ks.toArray e)) (ha : s.heap.get? a = some (seqObj "list" #[] e1)) (hka : kS ≠ a)
    (hl : ks.length = vs.length) (h64 : vs.length < 64)
    (hkind : 2 ≤ vs.length → wpAny (model prog w) A (keyKind' ks.toArray) (fun k s' => s' = s ∧ k = κk) NoX s)
    (hlt : 2 ≤ vs.length → ∀ i j C, i < vs.length → j < vs.length → C (O.blt (κ i) (κ j)) s → wpAny (model prog w) A (keyLt' κk ((PySem.W.katRev b ks).getD i Value.none) ((PySem.W.katRev b ks).getD j Value.none)) C NoX s)
    (h : ∀ h', (∀ c o, c ≠ kS → c ≠ a → s.heap.get? c = some o → h'.get? c = some o) → (∃ n, h'.get? a = some (seqObj "list" (sortedOf b κ vs).toArray n)) → (∃ o, h'.get? kS = some o) → P (.done (.ret .none)) { s with heap := h' }) :
    wpAny (model prog w) A (ksk_end a b vs.toArray e1 (.ref kS) ks.toArray) P E s := by
  have tail : ∀ st' : SortSt, (arrOf st').map (·.2) = List.toArray ((sortIx κ vs.length).map fun i => (PySem.W.katRev b vs).getD i Value.none) → failedOf st' = none → wpAny (model prog w) A (ksk_tail a b e1 (.ref kS) st') P E s := by
    intro st' hm hf
    unfold ksk_tail
    dsimp only
    have s1 := Heap.SameBut.update s.heap kS (Obj.mapSeq fun _ => (#[] : Array Value))
    have ha1 : (s.heap.update kS (Obj.mapSeq fun _ => (#[] : Array Value))).get? a = some (seqObj "list" #[] e1) := (s1.2 a hka.symm).trans ha
    have hout : (if b then ((arrOf st').map (·.2)).reverse else (arrOf st').map (·.2)) = (sortedOf b κ vs).toArray := by
      rw [hm]; exact PySem.W.kat_outs b _
    have hsz : (sortedOf b κ vs).toArray.size ≤ sizeLine + 1 := by rw [List.size_toArray, sortedOf_len, sizeLine_eq]; omega
    rw [hout]
    refine wpAny_bind (listUpdate_at hk rfl ?_ (by rw [List.size_toArray, hl, sizeLine_eq]; omega) (Nat.zero_le _))
    refine wpAny_bind (wpAny_letGo (wpAny_bind (seqEpoch_at ha1 rfl ?_)))
    refine wpAny_bind (listUpdate_at ha1 rfl ?_ (Nat.zero_le _) hsz)
    rw [hf]
    simp only [bne_self_eq_false, Bool.false_eq_true, if_false]
    have s2 := Heap.SameBut.update (s.heap.update kS (Obj.mapSeq fun _ => (#[] : Array Value))) a (Obj.mapSeq fun _ => (sortedOf b κ vs).toArray)
    refine wpAny_pure (h _ (fun c o c1 c2 q => (s2.2 c c2).trans ((s1.2 c c1).trans q)) ⟨_, get?_update_seq ha1 fun _ => (sortedOf b κ vs).toArray⟩ ⟨_, (s2.2 kS hka).trans (get?_update_seq hk fun _ => #[])⟩)
  unfold ksk_end
  dsimp only
  have skip : ∀ t : Sem PySem.Fin, wpAny (model prog w) A t P E s → wpAny (model prog w) A (if b = true then (do let _ ← rule "list.sort.reverse"; t) else t) P E s := by
    intro t ht
    split
    · exact wpAny_bind (wpAny_rule ht)
    · exact ht
  refine skip _ ?_
  rw [PySem.W.kat_pairs b hl]
  by_cases h2 : vs.toArray.size < 2
  · rw [if_pos h2, if_pos h2]
    refine wpAny_bind (wpAny_pure ?_)
    rw [StateT.run_pure]
    refine wpAny_bind (wpAny_pure ?_)
    dsimp only
    refine tail _ ?_ rfl
    have hn : vs.length < 2 := by simpa using h2
    have e2 : sortIx κ vs.length = List.range (PySem.W.katRev b vs).length := by unfold sortIx; rw [if_pos hn, PySem.W.kat_len]
    rw [e2, range_getD]
    show ((List.toArray (PySem.W.katRev b ks)).zip (List.toArray (PySem.W.katRev b vs))).map (·.2) = _
    apply Array.toList_inj.mp
    rw [Array.toList_map, ksk_zip]
    have := List.map_snd_zip (l₁ := PySem.W.katRev b ks) (l₂ := PySem.W.katRev b vs) (by rw [PySem.W.kat_len, PySem.W.kat_len, hl]; exact Nat.le_refl _)
    simpa using this
  · have h2' : 2 ≤ vs.length := by
      rw [List.size_toArray] at h2
      omega
    rw [if_neg h2, if_neg h2]
    refine wpAny_bind (wpAny_mono (hkind h2') (fun k s' hk' => ?_) fun _ _ z => z.elim)
    obtain ⟨rfl, rfl⟩ := hk'
    have el : (PySem.W.katRev b vs).length = vs.length := PySem.W.kat_len b vs
    refine wpAny_bind (wpAny_mono (sort_runs (κ := κ) (κk := k) (ks := PySem.W.katRev b ks) (vs := PySem.W.katRev b vs) (Q := fun st' s' => s' = s' ∧ wpAny (model prog w) A (ksk_tail a b e1 (.ref kS) st') P E s') (by rw [PySem.W.kat_len, PySem.W.kat_len, hl]) (by rw [el]; exact h2') (by rw [el]; exact h64)
      (fun i j C hi hj hC => hlt h2' i j C (by rw [el] at hi; exact hi) (by rw [el] at hj; exact hj) hC) (fun st' hm hf => ⟨rfl, tail st' (by rw [hm, el]) hf⟩)) (fun r s' hr => ?_) fun _ _ z => z)
    exact hr.2
end

/-! ### what may be a key -/
structure KeyDom where
  O : KeyOrd
  KR : Hp → V → O.α → Prop
  κk : SortKind
  mono : ∀ {H H' : Hp} {v : V} {a : O.α}, (∀ b xs, H b = some (.tup xs) → H' b = some (.tup xs)) → KR H v a → KR H' v a
  kind : ∀ {X : Cx} {A : Around} {pins : List (Addr × Obj)} {σ : St} {H : Hp} {s : Shared} {kvs : List V} {ks : List Value}, Inv X pins σ H s → Vals kvs ks → (∀ v ∈ kvs, ∃ a, KR H v a) → 2 ≤ ks.length →
    wpAny (model X.prog X.w) A (keyKind' ks.toArray) (fun k s' => s' = s ∧ k = κk) NoX s
  lt : ∀ {X : Cx} {A : Around} {pins : List (Addr × Obj)} {σ : St} {H : Hp} {s : Shared} {x y : V} {v u : Value} {a b : O.α} {C : Bool → Shared → Prop}, Inv X pins σ H s → RelV x v → RelV y u → KR H x a → KR H y b → C (O.blt a b) s →
    wpAny (model X.prog X.w) A (keyLt' κk v u) C NoX s
def ordInt : KeyOrd where
  α := Int
  blt := fun a b => decide (a < b)
  irrefl := fun a => decide_eq_false (by omega)
  trans := fun a b c h1 h2 => by
    have h1 := of_decide_eq_true h1
    have h2 := of_decide_eq_true h2
    exact decide_eq_true (by omega)
  negTrans := fun a b c h => by
    have h := of_decide_eq_true h
    by_cases q : a < b
    · exact .inl (decide_eq_true q)
    · exact .inr (decide_eq_true (by omega))
  total := fun a b h1 h2 => by
    have h1 := of_decide_eq_false h1
    have h2 := of_decide_eq_false h2
    omega
/-- the first, then the second -/
def ltPair (a b : Int × Int) : Bool := if a.1 = b.1 then decide (a.2 < b.2) else decide (a.1 < b.1)
theorem ltPair_iff {a b : Int × Int} : ltPair a b = true ↔ a.1 < b.1 ∨ (a.1 = b.1 ∧ a.2 < b.2) := by
  unfold ltPair
  split
  · rename_i h
    rw [decide_eq_true_iff]
    constructor
    · exact fun z => .inr ⟨h, z⟩
    · rintro (z | z)
      · omega
      · exact z.2
  · rename_i h
    rw [decide_eq_true_iff]
    constructor
    · exact fun z => .inl z
    · rintro (z | z)
      · exact z
      · exact absurd z.1 h
theorem ltPair_iffF {a b : Int × Int} : ltPair a b = false ↔ ¬ (a.1 < b.1 ∨ (a.1 = b.1 ∧ a.2 < b.2)) := by
  rw [← ltPair_iff, Bool.not_eq_true]
def ordPair : KeyOrd where
  α := Int × Int
  blt := ltPair
  irrefl := fun a => ltPair_iffF.mpr (by omega)
  trans := fun a b c h1 h2 => by
    rw [ltPair_iff] at h1 h2 ⊢
    omega
  negTrans := fun a b c h => by
    rw [ltPair_iff] at h ⊢
    rw [ltPair_iff]
    omega
  total := fun a b h1 h2 => by
    rw [ltPair_iffF] at h1 h2
    obtain ⟨a1, a2⟩ := a
    obtain ⟨b1, b2⟩ := b
    dsimp only at h1 h2
    have e1 : a1 = b1 := by omega
    have e2 : a2 = b2 := by omega
    rw [e1, e2]
theorem ints_of_KR : ∀ {kvs : List V} {ks : List Value}, Vals kvs ks → (∀ v ∈ kvs, ∃ a : Int, v = .int a) → ∃ ns, IntsAre ks ns
  | _, _, .nil, _ => ⟨[], .nil⟩
  | _, _, .cons r t, h => by
    obtain ⟨ns, q⟩ := ints_of_KR t fun v hv => h v (List.mem_cons_of_mem _ hv)
    obtain ⟨a, rfl⟩ := h _ List.mem_cons_self
    obtain ⟨tk, rfl⟩ := r
    exact ⟨a :: ns, .cons a tk q⟩
def domInt : KeyDom where
  O := ordInt
  KR := fun _ v a => v = .int a
  κk := oneType'
  mono := fun _ h => h
  kind := fun {X A pins σ H s kvs ks} I r h h2 => by
    obtain ⟨ns, q⟩ := ints_of_KR r h
    rw [ksk_kind (keys := ks.toArray) (kz := ns) (by simpa using q) (by simpa using h2)]
    exact wpAny_pure ⟨rfl, rfl⟩
  lt := fun {X A pins σ H s x y v u a b C} I rx ry hx hy hC => by
    subst hx hy
    obtain ⟨t, rfl⟩ := rx
    obtain ⟨t', rfl⟩ := ry
    rw [keyLt'_oneType]
    exact oneLt_int hC
theorem tups_of_KR {X : Cx} {pins : List (Addr × Obj)} {σ : St} {H : Hp} {s : Shared} (I : Inv X pins σ H s) : ∀ {kvs : List V} {ks : List Value}, Vals kvs ks → (∀ v ∈ kvs, ∃ a : Int × Int, ∃ p, v = .ref p ∧ H p = some (.tup [.int a.1, .int a.2])) →
    ∃ fs, PySem.W.KatTups s.heap ks fs ∧ fs.length = ks.length ∧ ∀ v ∈ fs, ∃ i t, v = Value.int i t
  | _, _, .nil, _ => ⟨[], trivial, rfl, fun _ h => absurd h List.not_mem_nil⟩
  | _, _, .cons r t, h => by
    obtain ⟨fs, q, hl, hv⟩ := tups_of_KR I t fun v hv => h v (List.mem_cons_of_mem _ hv)
    obtain ⟨a, p, rfl, hp⟩ := h _ List.mem_cons_self
    cases r
    obtain ⟨_, its, rv, o, ho, hc, n, hd⟩ := I.hok p _ hp
    cases rv with
    | cons r1 rr =>
      obtain ⟨tk, rfl⟩ := r1
      exact ⟨.int a.1 tk :: fs, PySem.W.KatTups.cons ho hc hd (by simp) q, by simp [hl], fun v hv' => by
        rcases List.mem_cons.mp hv' with z | z
        · exact ⟨_, _, z⟩
        · exact hv v z⟩
def domPair : KeyDom where
  O := ordPair
  KR := fun H v a => ∃ p, v = .ref p ∧ H p = some (.tup [.int a.1, .int a.2])
  κk := tuples' true
  mono := fun hs ⟨p, e, h⟩ => ⟨p, e, hs p _ h⟩
  kind := fun {X A pins σ H s kvs ks} I r h h2 => by
    obtain ⟨fs, q, hl, hv⟩ := tups_of_KR I r h
    refine PySem.W.kat_kind (T := .type "int") q (by omega) (fun v hv' => ?_) rfl ⟨rfl, rfl⟩
    obtain ⟨i, t, rfl⟩ := hv v hv'
    exact PySem.W.Looks.of_pure rfl
  lt := fun {X A pins σ H s x y v u a b C} I rx ry hx hy hC => by
    obtain ⟨p, rfl, hp⟩ := hx
    obtain ⟨q, rfl, hq⟩ := hy
    cases rx
    cases ry
    obtain ⟨_, its, rv, o, ho, hc, n, hd⟩ := I.hok p _ hp
    obtain ⟨_, its', rv', o', ho', hc', n', hd'⟩ := I.hok q _ hq
    obtain ⟨u1, u2, rfl, ⟨t1, rfl⟩, ⟨t2, rfl⟩⟩ := vals2 rv
    obtain ⟨w1, w2, rfl, ⟨t3, rfl⟩, ⟨t4, rfl⟩⟩ := vals2 rv'
    refine PySem.W.kat_lt ho hd ho' hd' ?_
    show PySem.W.KatLex X.prog X.w A true _ C [(Value.int a.1 t1, Value.int b.1 t3), (Value.int a.2 t2, Value.int b.2 t4)] 0 s
    refine PySem.W.kat_cons (wpAny_eqBool_int ?_)
    by_cases e1 : a.1 = b.1
    · rw [show (a.1 == b.1) = true from by simp [e1]]
      refine PySem.W.kat_yes (PySem.W.kat_cons (wpAny_eqBool_int ?_))
      by_cases e2 : a.2 = b.2
      · rw [show (a.2 == b.2) = true from by simp [e2]]
        refine PySem.W.kat_yes (PySem.W.kat_nil ?_)
        have : ltPair a b = false := ltPair_iffF.mpr (by omega)
        have hC' : C (ltPair a b) s := hC
        rw [this] at hC'
        exact hC'
      · rw [show (a.2 == b.2) = false from by simp [e2]]
        refine PySem.W.kat_no ?_
        show wpAny _ _ (oneLt' false (Value.int a.2 t2) (Value.int b.2 t4)) C NoX s
        refine PySem.W.kat_one _ _ (lt_int ?_)
        have : ltPair a b = decide (a.2 < b.2) := by unfold ltPair; rw [if_pos e1]
        have hC' : C (ltPair a b) s := hC
        rw [this] at hC'
        exact hC'
    · rw [show (a.1 == b.1) = false from by simp [e1]]
      refine PySem.W.kat_no ?_
      show wpAny _ _ (oneLt' true (Value.int a.1 t1) (Value.int b.1 t3)) C NoX s
      have : ltPair a b = decide (a.1 < b.1) := by unfold ltPair; rw [if_neg e1]
      have hC' : C (ltPair a b) s := hC
      rw [this] at hC'
      exact oneLt_int hC'
end L2

namespace L2
open PySem PySem.Spec PyProof.Rows Fb
/-! ### a lambda that reads names of the def around it, handed to sorted -/
/-- an object that stood untracked is changed and tracked from now on -/
theorem Inv.adopt {X : Cx} {pins : List (Addr × Obj)} {σ : St} {H : Hp} {s : Shared} {h' : Heap} {t' : Nat} {p : Addr} {o : HO} (I : Inv X pins σ H s) (fp : FpOk X pins H p)
    (k : ∀ b ob, b ≠ p → s.heap.get? b = some ob → h'.get? b = some ob) (new : ObjOk X.prog X.w (upd H p o) h' p o) : Inv X pins σ (upd H p o) { s with heap := h', toks := t' } := by
  have hn : H p = none := fp.1
  have ne : ∀ b u, H b = some u → b ≠ p := fun b u q => ne_of_none q hn
  refine I.step (g' := s.gens) (d' := s.drawn) (ch := [p]) (fun b hb => ?_) (fun b ob _ _ hc q _ => k b ob (fun z => hc (by simp [z])) q) (fun b ob _ _ hc q _ => ⟨ob.slots, k b ob (fun z => hc (by simp [z])) q⟩)
    (fun b ob hc q n => by rw [upd_ne (fun z => hc (by simp [z]))]; exact n) (fun b ob hc q => ⟨ob, k b ob (fun z => hc (by simp [z])) q⟩)
    (fun b xs q => by rw [upd_ne (ne b _ q)]; exact q) (fun b ob u q => by rw [upd_ne (ne b _ q)]; exact q) (fun b ps q => ⟨#[], by rw [upd_ne (ne b _ q), q]; simp⟩) (fun m hm => ?_) (fun b u q => ?_) I.bare
  · obtain rfl := List.mem_singleton.mp hb
    obtain ⟨_, f1, _, f3, f4, f5⟩ := fp
    exact ⟨f3, f1, f4, f5⟩
  · obtain ⟨ob, es, ep, ho, r⟩ := hm
    exact ⟨ob, es, ep, k _ ob (Ne.symm fp.2.1) ho, r⟩
  · by_cases hb : b = p
    · subst hb; rw [upd_same] at q; cases q; exact new
    · rw [upd_ne hb] at q
      refine (I.hok b u q).stay (fun c v hc r => k c v ?_ r) (fun c r => by rw [upd_ne (ne c _ r)]; exact r) fun c xs r => by rw [upd_ne (ne c _ r)]; exact r
      rcases hc with z | z
      · rw [z]; exact hb
      · exact ne c _ z
theorem r_len {xs : List V} {us : List Value} (r : Vals xs us) : us.length = xs.length := r.length.symm
/-- two records of ours have turned, one of them is tracked from now on -/
theorem Inv.write2 {X : Cx} {pins : List (Addr × Obj)} {σ : St} {H : Hp} {s : Shared} {h' : Heap} {t' : Nat} {e p : Addr} {o : HO} (I : Inv X pins σ H s) (fe : FpOk X pins H e) (fp : FpOk X pins H p)
    (k : ∀ b ob, b ≠ e → b ≠ p → s.heap.get? b = some ob → h'.get? b = some ob) (new : ObjOk X.prog X.w (upd H p o) h' p o) : Inv X pins σ (upd H p o) { s with heap := h', toks := t' } := by
  have hn : H p = none := fp.1
  have ne : ∀ b u, H b = some u → b ≠ e ∧ b ≠ p := fun b u q => ⟨fun z => (by rw [z, fe.1] at q; cases q), ne_of_none q hn⟩
  refine I.step (g' := s.gens) (d' := s.drawn) (ch := [e, p]) (fun b hb => ?_) (fun b ob _ _ hc q _ => k b ob (fun z => hc (by simp [z])) (fun z => hc (by simp [z])) q) (fun b ob _ _ hc q _ => ⟨ob.slots, k b ob (fun z => hc (by simp [z])) (fun z => hc (by simp [z])) q⟩)
    (fun b ob hc q n => by rw [upd_ne (fun z => hc (by simp [z]))]; exact n) (fun b ob hc q => ⟨ob, k b ob (fun z => hc (by simp [z])) (fun z => hc (by simp [z])) q⟩)
    (fun b xs q => by rw [upd_ne (ne b _ q).2]; exact q) (fun b ob u q => by rw [upd_ne (ne b _ q).2]; exact q) (fun b ps q => ⟨#[], by rw [upd_ne (ne b _ q).2, q]; simp⟩) (fun m hm => ?_) (fun b u q => ?_) I.bare
  · rcases List.mem_cons.mp hb with z | hb
    · subst z; obtain ⟨_, f1, _, f3, f4, f5⟩ := fe; exact ⟨f3, f1, f4, f5⟩
    · obtain rfl := List.mem_singleton.mp hb
      obtain ⟨_, f1, _, f3, f4, f5⟩ := fp; exact ⟨f3, f1, f4, f5⟩
  · obtain ⟨ob, es, ep, ho, r⟩ := hm
    exact ⟨ob, es, ep, k _ ob (Ne.symm fe.2.1) (Ne.symm fp.2.1) ho, r⟩
  · by_cases hb : b = p
    · subst hb; rw [upd_same] at q; cases q; exact new
    · rw [upd_ne hb] at q
      refine (I.hok b u q).stay (fun c v hc r => k c v ?_ ?_ r) (fun c r => by rw [upd_ne (ne c _ r).2]; exact r) fun c xs r => by rw [upd_ne (ne c _ r).2]; exact r
      · rcases hc with z | z
        · rw [z]; exact (ne b u q).1
        · exact (ne c _ z).1
      · rcases hc with z | z
        · rw [z]; exact hb
        · exact (ne c _ z).2
/-- the table of a def's code: nothing in it, or the code of its one lambda -/
structure Tab where
  P : Addr
  pos : Pos
  qual : Str
def codeIs (c : Addr) (q : Str) : HO := .ext fun h => h.CodeRec (.ref c) q
def TabOk (T : Tab) (H : Hp) : Prop := H T.P = some (.tbl #[]) ∨ ∃ c, H T.P = some (.tbl #[rawInt T.pos.line, rawInt T.pos.col, .ref c]) ∧ H c = some (codeIs c T.qual)
/-- nothing but tables has changed -/
def NoTbl : HO → Prop
  | .tbl _ => False
  | _ => True
structure Grow (Ts : List Tab) (H H' : Hp) : Prop where
  keep : ∀ b o, H b = some o → NoTbl o → H' b = some o
  tabs : ∀ T ∈ Ts, TabOk T H → TabOk T H'
theorem Grow.refl (Ts : List Tab) (H : Hp) : Grow Ts H H := ⟨fun _ _ h _ => h, fun _ _ h => h⟩
theorem Grow.trans {Ts : List Tab} {H H1 H2 : Hp} (a : Grow Ts H H1) (b : Grow Ts H1 H2) : Grow Ts H H2 := ⟨fun c o h n => b.keep c o (a.keep c o h n) n, fun T hT h => b.tabs T hT (a.tabs T hT h)⟩
theorem TabOk.same {T : Tab} {H H' : Hp} (e : Same H H') (h : TabOk T H) : TabOk T H' := by
  rcases h with h | ⟨c, h1, h2⟩
  · exact .inl (e _ _ h)
  · exact .inr ⟨c, e _ _ h1, e _ _ h2⟩
theorem Grow.of_same {Ts : List Tab} {H H' : Hp} (e : Same H H') : Grow Ts H H' := ⟨fun b o h _ => e b o h, fun T _ h => h.same e⟩
theorem Same.new {H : Hp} {p : Addr} {o : HO} (h : H p = none) : Same H (upd H p o) := fun b u q => by rw [upd_ne (ne_of_none q h)]; exact q
theorem Grow.new {Ts : List Tab} {H H' : Hp} {p : Addr} {o : HO} (g : Grow Ts H H') (h : H' p = none) : Grow Ts H (upd H' p o) := g.trans (.of_same (.new h))
/-- a list that is not older than H is written -/
theorem Grow.set {Ts : List Tab} {H H' : Hp} {p : Addr} {xs : List V} {o : HO} (g : Grow Ts H H') (h : H p = none) (h' : H' p = some (.lst xs)) : Grow Ts H (upd H' p o) :=
  ⟨fun b u q n => by rw [upd_ne (ne_of_none q h)]; exact g.keep b u q n, fun T hT q => by
    rcases g.tabs T hT q with z | ⟨c, z1, z2⟩
    · refine .inl ?_
      rw [upd_ne (ne_of z h' (by intro y; cases y))]; exact z
    · refine .inr ⟨c, ?_, ?_⟩
      · rw [upd_ne (ne_of z1 h' (by intro y; cases y))]; exact z1
      · rw [upd_ne (ne_of z2 h' (by intro y; cases y))]; exact z2⟩
theorem Grow.setD {Ts : List Tab} {H H' : Hp} {p : Addr} {kvs : List (Key × V)} {o : HO} (g : Grow Ts H H') (h : H p = none) (h' : H' p = some (.dK kvs)) : Grow Ts H (upd H' p o) :=
  ⟨fun b u q n => by rw [upd_ne (ne_of_none q h)]; exact g.keep b u q n, fun T hT q => by
    rcases g.tabs T hT q with z | ⟨c, z1, z2⟩
    · refine .inl ?_
      rw [upd_ne (ne_of z h' (by intro y; cases y))]; exact z
    · refine .inr ⟨c, ?_, ?_⟩
      · rw [upd_ne (ne_of z1 h' (by intro y; cases y))]; exact z1
      · rw [upd_ne (ne_of z2 h' (by intro y; cases y))]; exact z2⟩
theorem Grow.lst {Ts : List Tab} {H H' : Hp} {a : Addr} {xs : List V} (g : Grow Ts H H') (h : H a = some (.lst xs)) : H' a = some (.lst xs) := g.keep _ _ h trivial
theorem Grow.tup {Ts : List Tab} {H H' : Hp} {a : Addr} {xs : List V} (g : Grow Ts H H') (h : H a = some (.tup xs)) : H' a = some (.tup xs) := g.keep _ _ h trivial
theorem Grow.free {Ts : List Tab} {H H' : Hp} {a : Addr} (g : Grow Ts H H') (hT : ∀ b ps, H b = some (.tbl ps) → ∃ T ∈ Ts, T.P = b ∧ TabOk T H) (h : H' a = none) : H a = none := by
  cases q : H a with
  | none => rfl
  | some o =>
    cases o with
    | tbl ps =>
      obtain ⟨T, hm, e, ht⟩ := hT a ps q
      rcases g.tabs T hm ht with z | ⟨c, z, _⟩ <;> (rw [e, h] at z; cases z)
    | _ => rw [g.keep a _ q trivial] at h; cases h
theorem Grow.sq {Ts : List Tab} {K : PySem.W.Frag} {H H' : Hp} {a : Addr} {xs : List V} (g : Grow Ts H H') (h : SqL K H a xs) : SqL K H' a xs := by
  rcases h with (h | ⟨o, h⟩) | h
  · exact .inl (.inl (g.keep _ _ h trivial))
  · exact .inl (.inr ⟨o, g.keep _ _ h trivial⟩)
  · exact .inr h

/-- the context of a lambda's body, called within X's def -/
def lamCx (X : Cx) (N own : List Str) (ix : List Nat) (scope : Scope) (qual : Str) (f c : Addr) (cl : List (Str × Addr)) (A : Around) (s : Shared) (H : Hp) : Cx :=
  { prog := X.prog, w := X.w, K := X.K, mg := X.mg, base := X.base, A := A.deeper (PySem.W.envX qual scope s.heap.objs.size f (.ref c) cl), N := compN N own ix, s₀ := s, H₀ := H, env := PySem.W.envX qual scope s.heap.objs.size f (.ref c) cl, outer := X.stack,
    stack := PySem.W.envX qual scope s.heap.objs.size f (.ref c) cl :: X.stack, ex := [], fn := fun x => own.contains x, calm := true, pn := [], xe := NoX }
section
variable {X : Cx} {pins : List (Addr × Obj)} {σ : St} {H : Hp} {s : Shared} {osc scope : Scope} {N : List Str} {y : Str} {ix : List Nat} {cl : List (Str × Addr)} {h' : Heap} {tk : Nat} {A : Around} {qual : Str} {f c : Addr} {u : Value} {v : V}
theorem lam_inv (I : Inv X pins σ H s) (S : CompScope osc scope N [y] ix) (hsc : X.env.scope = osc) (hN : X.N = N) (hfr : A.frames = some X.stack) (hhd : A.handled = none)
    (c1 : ∀ x c, cl.lookup x = some c → X.env.cells.lookup x = some c) (c2 : ∀ x, (x, NameKind.free) ∈ scope.names → ∃ c, cl.lookup x = some c) (c3 : ∀ x c, cl.lookup x = some c → (x, NameKind.free) ∈ scope.names)
    (r : RelV v u) (hns : h'.Ns s.heap.objs.size fun x => [(y, u)].reverse.lookup x) (hsb : Heap.SameBut s.heap.objs.size (s.heap.push { cls := .type "frame", data := .dict #[] }) h') :
    Inv (lamCx X N [y] ix scope qual f c cl A s H) [] (some v :: ix.map fun i => (σ.getD i none)) H { s with heap := h', toks := tk } := by
  have kp : ∀ b o, s.heap.get? b = some o → h'.get? b = some o := fun b o e => hsb.extBut b o (Nat.ne_of_lt (Heap.lt_size e)) (Heap.get?_push_of_some _ e)
  have nloc : ∀ x ∈ [y], cl.lookup x = none := fun x hx => by
    cases e : cl.lookup x with
    | none => rfl
    | some c =>
      have h1 := S.fre _ (c3 x c e) rfl
      rw [S.mine x hx] at h1
      cases h1
  have kindF : ∀ {x : Str}, scope.names.lookup x = some .cell ∨ scope.names.lookup x = some .free → (x, NameKind.free) ∈ scope.names := fun {x} hx => by
    rcases hx with e | e
    · exact absurd rfl (S.nocell _ (PySem.mem_of_lookup e))
    · exact PySem.mem_of_lookup e
  have noA : ∀ b : Addr, b ∉ (lamCx X N [y] ix scope qual f c cl A s H).ex := fun b z => absurd (show b ∈ ([] : List Addr) from z) (by simp)
  refine ⟨⟨I.ok.mod, S.kind, rfl, rfl, Nat.le_refl _, fun x z d h1 h2 => I.ok.inj x z d (c1 x d h1) (c1 z d h2), fun x hx => c2 x (kindF hx), fun x d hx hd => ?_, fun _ => hhd, Around.frames_deeper hfr, .inr ⟨rfl, rfl⟩, fun b hb => absurd hb (noA b), I.bs,
    Nat.le_trans I.ok.bsz I.sz, fun b o e => noA b, fun b hb => absurd hb (noA b), I.stack, I.stkFree⟩, rfl, I.bare, Un.kept kp, ⟨_, hns, fun i x v' h1 h2 h3 => ?_⟩, fun x d hd => ?_, I.hok.fresh (Nat.le_refl _), fun x d hd => I.freeC x d (c1 x d hd), fun p hp => absurd (show p ∈ ([] : List (Addr × Obj)) from hp) (by simp), I.hok.kept kp, ?_⟩
  · have hx' : x ∈ [y] := by simpa [lamCx] using hx
    have hd' : cl.lookup x = some d := hd
    rw [nloc x hx'] at hd'
    cases hd'
  · cases i with
    | zero =>
      have e1 : y = x := Option.some.inj (show some y = some x from h1)
      have e2 : v = v' := Option.some.inj (Option.some.inj (show some (some v) = some (some v') from h2))
      subst e1 e2
      exact ⟨u, r, .inl ⟨S.mine y (by simp), by simp⟩⟩
    | succ i =>
      have h1' : (ix.map fun i => N.getD i Str.empty)[i]? = some x := h1
      have h2' : (ix.map fun i => (σ.getD i none))[i]? = some (some v') := h2
      rw [List.getElem?_map] at h1' h2'
      cases e : ix[i]? with
      | none => rw [e] at h2'; cases h2'
      | some j =>
        rw [e] at h1' h2'
        have h1'' : N.getD j Str.empty = x := Option.some.inj h1'
        have h2'' : σ.getD j none = some v' := Option.some.inj h2'
        have hσ : σ[j]? = some (some v') := by
          rw [List.getD_eq_getElem?_getD] at h2''
          cases q : σ[j]? with
          | none => rw [q] at h2''; cases h2''
          | some z => rw [q] at h2''; rw [show z = some v' from h2'']
        have hj : j < X.N.length := by rw [← I.len]; exact (List.getElem?_eq_some_iff.mp hσ).1
        have hNj : X.N[j]? = some x := by
          rw [← h1'', ← hN, List.getD_eq_getElem?_getD, List.getElem?_eq_getElem hj]
          rfl
        have hx3 : scope.names.lookup x = some .cell ∨ scope.names.lookup x = some .free := by
          rcases (show scope.names.lookup x = some .local ∨ scope.names.lookup x = some .cell ∨ scope.names.lookup x = some .free from h3) with z | z
          · have ho := S.out j (List.mem_of_getElem? e)
            rw [h1''] at ho
            exact absurd z ho
          · exact z
        have hfr' := kindF hx3
        have hk : X.env.kindOf x = some .cell ∨ X.env.kindOf x = some .free := by
          have := S.free _ hfr' rfl
          rw [← hsc] at this
          exact this
        obtain ⟨m, hn, hl⟩ := I.loc
        obtain ⟨u', r', l⟩ := hl j x v' hNj hσ (.inr hk)
        refine ⟨u', r', .inr ⟨hx3, ?_⟩⟩
        obtain ⟨d, hd⟩ := c2 x hfr'
        refine ⟨d, hd, ?_⟩
        rcases l with ⟨z, _⟩ | ⟨_, d', hd', hcell⟩
        · rcases hk with q | q <;> (rw [q] at z; cases z)
        · rw [c1 x d hd] at hd'
          cases hd'
          obtain ⟨o, ho, hdt⟩ := hcell
          exact ⟨o, kp _ _ ho, hdt⟩
  · obtain ⟨w', o, ho, hdt⟩ := I.cell x d (c1 x d hd)
    exact ⟨w', o, kp _ _ ho, hdt⟩
  · show (some v :: ix.map fun i => (σ.getD i none)).length = (y :: ix.map fun i => N.getD i Str.empty).length
    simp
/-- the lambda runs -/
theorem lam_run {params : Arguments} {body : Expr} {te : TE} {ctv pm : Value} {Q : VK} (I : Inv X pins σ H s) (S : CompScope osc scope N [y] ix) (hsc : X.env.scope = osc) (hN : X.N = N) (hfr : A.frames = some X.stack) (hhd : A.handled = none) (hdp : A.depth < recursionLimit)
    (c1 : ∀ x c, cl.lookup x = some c → X.env.cells.lookup x = some c) (c2 : ∀ x, (x, NameKind.free) ∈ scope.names → ∃ c, cl.lookup x = some c) (c3 : ∀ x c, cl.lookup x = some c → (x, NameKind.free) ∈ scope.names)
    (hco : scope.isCoroutine = false) (hgen : scope.isGenerator = false) (hbind : ∀ (cdv : Value) (u : Value), bindArgs (PySem.W.kla_fn "<lambda>" qual params body scope cl pm cdv ctv) ⟨[u], []⟩ = pure [(y, u)])
    (hf : s.heap.get? f = some (PySem.W.kla_obj "<lambda>" qual params body scope cl pm c ctv)) (hc : H c = some (codeIs c qual)) (r : RelV v u)
    (hb : ∀ f c cl A s H, PE (lamCx X N [y] ix scope qual f c cl A s H) body te) (h : te (some v :: ix.map fun i => (σ.getD i none)) H Q) :
    codeAny (model X.prog X.w) A (.call (.ref f) ⟨[u], []⟩) (CR CX0 X.stack X.prog X.w H s Q E0) s := by
  have hcd : s.heap.CodeRec (.ref c) qual := (I.hok c _ hc).1
  refine PySem.W.kla_callFunE hdp hf rfl hco hgen rfl hcd ?_
  rw [hbind]
  refine wpAny_pure (wpAny_newFunctionEnv S.nocell (fun z hz => ?_) (fun h1 hns hsb => ?_) S.kind)
  · obtain rfl := List.mem_singleton.mp hz
    exact S.mine y (by simp)
  have kp : ∀ b o, s.heap.get? b = some o → h1.get? b = some o := fun b o e => hsb.extBut b o (Nat.ne_of_lt (Heap.lt_size e)) (Heap.get?_push_of_some _ e)
  refine ⟨I.nolimit.keeps kp, PySem.W.kla_codeExpr ?_⟩
  have J : Inv (lamCx X N [y] ix scope qual f c cl A s H) [] (some v :: ix.map fun i => (σ.getD i none)) H { s with heap := h1, toks := s.toks + 1 } := lam_inv I S hsc hN hfr hhd c1 c2 c3 r hns hsb
  refine wpAny_mono (hb f c cl A s H [] _ _ H Q J h) (fun w' s' hw => ?_) fun _ _ z => z.elim
  obtain ⟨v', H', J', rv, q⟩ := hw
  exact ⟨v', H', J'.os, J'.bare, J'.base, J'.hok, rv, q⟩
end
/-! ### the lambda is made -/
/-- what the module of the builtins is -/
def BMain (mg : Str → Option Value) (base : Heap) : Prop := ∃ bm ob, mg "__builtins__" = some (.ref bm) ∧ bm ≠ builtinsNs ∧ base.get? bm = some ob ∧ ob.cls = .type "module" ∧ ob.dict = some builtinsNs ∧ ob.data = .plain
section
variable {X : Cx} {pins : List (Addr × Obj)} {σ : St} {H : Hp} {s : Shared} {scope : Scope} {cl : List (Str × Addr)} {params : Arguments} {body : Expr} {pos : Pos} {T : Tab} {c : Addr}
theorem lam_made (I : Inv X pins σ H s) (bm : BMain X.mg X.base) (hcl : closureFor scope X.env = pure cl) (hcode : X.env.code = .ref c) (C : PySem.W.CodeHd X.base c T.P) (hT : TabOk T H) (hpos : T.pos = pos) (hq : T.qual = X.env.qual ++ "<lambda>") (hdef : defaultsOf params X.env = ([], []))
    {Q : Value → Shared → Prop} {E : Value → Shared → Prop}
    (h : ∀ f c' ctv s' H', Inv X pins σ H' s' → Grow [T] H H' → (∀ T', T'.P ≠ T.P → TabOk T' H → TabOk T' H') → FpOk X pins H' f → s'.heap.get? f = some (PySem.W.kla_obj "<lambda>" T.qual params body scope cl ((X.mg "__name__").getD .none) c' ctv) → H' c' = some (codeIs c' T.qual) →
      (∀ b o, H b = some o → b ≠ T.P → H' b = some o) → Q (.ref f) s') :
    wpAny (model X.prog X.w) X.A (eval (.Lambda params body scope pos) X.env) Q E s := by
  obtain ⟨b0, ob, b1, b2, b3, b4, b5, b6⟩ := bm
  have hgs : s.heap.Ns mainGlobals X.mg := I.mod.glob.keeps I.bk
  have Cs := C.keeps I.bk
  have fin : ∀ {h2 : Heap} {tk : Nat} {H2 : Hp} {c' : Addr} {ctv : Value}, Inv X pins σ H2 { s with heap := h2, toks := tk } → Grow [T] H H2 → (∀ T', T'.P ≠ T.P → TabOk T' H → TabOk T' H2) → H2 c' = some (codeIs c' T.qual) → (∀ b o, H b = some o → b ≠ T.P → H2 b = some o) →
      Q (.ref h2.objs.size) { s with heap := h2.push (PySem.W.kla_obj "<lambda>" T.qual params body scope cl ((X.mg "__name__").getD .none) c' ctv), toks := tk } := fun {h2 tk H2 c' ctv} I2 g g2 hc2 k2 => by
    have I3 : Inv X pins σ H2 { s with heap := h2.push (PySem.W.kla_obj "<lambda>" T.qual params body scope cl ((X.mg "__name__").getD .none) c' ctv), toks := tk } := I2.kept (t' := tk) fun b o e => Heap.get?_push_of_some _ e
    exact h h2.objs.size c' ctv _ H2 I3 g g2 (I2.fpOk (Nat.le_refl _) (I2.hok.fresh (Nat.le_refl _))) (Heap.get?_push_size _ rfl) hc2 k2
  refine PySem.W.kla_eval hdef ?_
  rw [← hq]
  rcases hT with hT | ⟨c', hT, hc'⟩
  · -- the first time
    have hP : s.heap.get? T.P = some (PySem.W.tabObj #[]) := I.hok T.P _ hT
    have hgP : mainGlobals ≠ T.P := fun z => by
      obtain ⟨o, es, ep, e, hd, _⟩ := hgs
      rw [z, hP] at e; cases e; cases hd
    have hbP : b0 ≠ T.P := fun z => by
      have e := I.bk _ _ b3
      rw [z, hP] at e; cases e; cases b4
    have hbG : b0 ≠ mainGlobals := fun z => by
      obtain ⟨o, es, ep, e, hd, _⟩ := I.mod.glob
      rw [z, e] at b3; cases b3; rw [hd] at b6; cases b6
    refine PySem.W.kla_makeFunction (mg := X.mg) hcl I.ok.glob hgs hcode Cs hP trivial rfl hgP ⟨b0, ob, b1, b2, hbG, hbP, I.bk _ _ b3, b4, b5, b6⟩ fun c' ctv h1 tk hx hge hlt hrec htb => ?_
    have nP : ∀ b u, H b = some u → u ≠ .tbl #[] → b ≠ T.P := fun b u q n z => by rw [z, hT] at q; cases q; exact n rfl
    have nC : ∀ b u, H b = some u → b ≠ c' := fun b u q z => by
      have := I.hok.lt q
      rw [z] at this
      exact absurd (Nat.lt_of_lt_of_le this hge) (Nat.lt_irrefl _)
    have hPc : T.P ≠ c' := nC _ _ hT
    have htb' : h1.get? T.P = some { cls := .none, data := .fields #[rawInt T.pos.line, rawInt T.pos.col, .ref c'] } := by
      have := htb
      rw [← hpos] at this
      simpa using this
    have I2 : Inv X pins σ (upd (upd H T.P (.tbl #[rawInt T.pos.line, rawInt T.pos.col, .ref c'])) c' (codeIs c' T.qual)) { s with heap := h1, toks := tk } := by
      refine I.step (g' := s.gens) (d' := s.drawn) (ch := []) (fun _ z => absurd z (by simp)) (fun b o _ _ _ q n => hx b o (fun z => by rw [z, hT] at n; cases n) q) (fun b o _ _ _ q n => ⟨o.slots, hx b o (fun z => by rw [z, hT] at n; cases n) q⟩)
        (fun b o _ q n => ?_) (fun b o _ q => ?_) (fun b xs q => ?_) (fun b o u q => ?_) (fun b ps q => ?_) (fun m hm => ?_) (fun b u q => ?_) I.bare
      · have h1' : b ≠ c' := fun z => by
          have := Heap.lt_size q
          rw [z] at this
          exact absurd (Nat.lt_of_lt_of_le this hge) (Nat.lt_irrefl _)
        rw [upd_ne h1', upd_ne (fun z => by rw [z, hT] at n; cases n)]; exact n
      · by_cases hb : b = T.P
        · subst hb; exact ⟨_, htb'⟩
        · exact ⟨o, hx b o hb q⟩
      · rw [upd_ne (nC _ _ q), upd_ne (nP _ _ q (by intro z; cases z))]; exact q
      · rw [upd_ne (nC _ _ q), upd_ne (nP _ _ q (by intro z; cases z))]; exact q
      · by_cases hb : b = T.P
        · subst hb
          rw [hT] at q
          cases q
          exact ⟨#[rawInt T.pos.line, rawInt T.pos.col, .ref c'], by rw [upd_ne hPc, upd_same]; simp⟩
        · exact ⟨#[], by rw [upd_ne (nC _ _ q), upd_ne hb, q]; simp⟩
      · obtain ⟨o, es, ep, ho, rr⟩ := hm
        exact ⟨o, es, ep, hx _ o (fun z => by have := I.free; rw [z, hT] at this; cases this) ho, rr⟩
      · by_cases hb : b = c'
        · subst hb
          rw [upd_same] at q
          cases q
          obtain ⟨c2, oc, vs, t, e2, hoc, hd, hv⟩ := id hrec
          cases e2
          exact ⟨hrec, ⟨oc, hoc⟩, fun g1 g2 p k => Heap.CodeRec.at p k⟩
        · rw [upd_ne hb] at q
          by_cases hb2 : b = T.P
          · subst hb2
            rw [upd_same] at q
            cases q
            exact htb'
          · rw [upd_ne hb2] at q
            refine (I.hok b u q).stay (fun d v hc r => hx d v ?_ r) (fun d r => by rw [upd_ne (nC _ _ r), upd_ne (nP _ _ r (by intro z; cases z))]; exact r) fun d xs r => by rw [upd_ne (nC _ _ r), upd_ne (nP _ _ r (by intro z; cases z))]; exact r
            rcases hc with z | z
            · rw [z]; exact hb2
            · exact nP _ _ z (by intro y; cases y)
    have k2 : ∀ b o, H b = some o → b ≠ T.P → upd (upd H T.P (.tbl #[rawInt T.pos.line, rawInt T.pos.col, .ref c'])) c' (codeIs c' T.qual) b = some o := fun b o q hb => by rw [upd_ne (nC _ _ q), upd_ne hb]; exact q
    refine fin I2 ⟨fun b o q n => k2 b o q fun z => ?_, fun T' hm _ => ?_⟩ (fun T' ne ht => ?_) upd_same k2
    · rw [z, hT] at q; cases q; exact n
    · obtain rfl := List.mem_singleton.mp hm
      exact .inr ⟨c', by rw [upd_ne hPc, upd_same], upd_same⟩
    · rcases ht with z | ⟨d, z1, z2⟩
      · exact .inl (k2 _ _ z ne)
      · exact .inr ⟨d, k2 _ _ z1 ne, k2 _ _ z2 fun z => by rw [z, hT] at z2; cases z2⟩
  · -- again
    have hP : s.heap.get? T.P = some (PySem.W.tabObj #[rawInt T.pos.line, rawInt T.pos.col, .ref c']) := I.hok T.P _ hT
    have hbP : b0 ≠ T.P := fun z => by
      have e := I.bk _ _ b3
      rw [z, hP] at e; cases e; cases b4
    have hbG : b0 ≠ mainGlobals := fun z => by
      obtain ⟨o, es, ep, e, hd, _⟩ := I.mod.glob
      rw [z, e] at b3; cases b3; rw [hd] at b6; cases b6
    refine PySem.W.kla_makeFunctionHit (mg := X.mg) (cv := .ref c') hcl I.ok.glob hgs hcode Cs hP ?_ ?_ ⟨b0, ob, b1, b2, hbG, hbP, I.bk _ _ b3, b4, b5, b6⟩ fun ctv h1 tk hk hsz => ?_
    · simp [TriplesOk, rawInt]
    · rw [hpos]; simp [codeAmong, rawInt]
    · exact fin (I.kept (t' := tk) hk) (Grow.refl _ _) (fun _ _ ht => ht) hc' fun _ _ q _ => q
end

/-! ### sorted(xs, key=lambda y: .., reverse=b) -/
section
variable {X : Cx} {osc scope : Scope} {N : List Str} {y : Str} {ix : List Nat} {params : Arguments} {body : Expr} {te : TE} {T : Tab} {c : Addr} (dm : KeyDom)
/-- what comes out: the items in the order of their keys, the list turned round ahead of and behind the sort if b -/
def sortedV {O : KeyOrd} (b : Bool) (κ : Nat → O.α) (xs : List V) : List V := PySem.W.katRev b ((sortIx (fun i => κ (if b then xs.length - 1 - i else i)) xs.length).map fun i => (PySem.W.katRev b xs).getD i V.non)
theorem Vals.katRev {xs : List V} {us : List Value} (b : Bool) (r : Vals xs us) : Vals (PySem.W.katRev b xs) (PySem.W.katRev b us) := by
  cases b with
  | false => exact r
  | true => exact r.reverse
theorem Vals.picks {xs : List V} {us : List Value} (r : Vals xs us) : ∀ l : List Nat, (∀ i ∈ l, i < xs.length) → Vals (l.map fun i => xs.getD i V.non) (l.map fun i => us.getD i Value.none)
  | [], _ => .nil
  | i :: l, h => by
    have hi := h i List.mem_cons_self
    obtain ⟨u, hu, ru⟩ := r.get (i := i) (x := xs[i]) (by simp [hi])
    refine .cons ?_ (Vals.picks r l fun j hj => h j (List.mem_cons_of_mem _ hj))
    have e1 : xs.getD i V.non = xs[i] := by simp [hi]
    have e2 : us.getD i Value.none = u := by rw [List.getD_eq_getElem?_getD, hu]; rfl
    show RelV (xs.getD i V.non) (us.getD i Value.none)
    rw [e1, e2]
    exact ru
theorem sorted_rel {O : KeyOrd} {κ : Nat → O.α} {xs : List V} {us : List Value} {b : Bool} (r : Vals xs us) : Vals (sortedV b κ xs) (sortedOf b (fun i => κ (if b then xs.length - 1 - i else i)) us) := by
  unfold sortedV sortedOf
  rw [← r.length]
  refine (Vals.katRev b ?_)
  refine (Vals.katRev b r).picks _ fun i hi => ?_
  have := (sortIx_perm (fun i => κ (if b then xs.length - 1 - i else i)) xs.length).mem_iff.mp hi
  rw [PySem.W.kat_len]
  exact List.mem_range.mp this
/-- the call of list.sort with a key, the items at a -/
theorem sort_keyed {pins : List (Addr × Obj)} {σ : St} {H : Hp} {s : Shared} {a f c' : Addr} {n : Nat} {xs : List V} {us : List Value} {b : Bool} {cl : List (Str × Addr)} {pm ctv : Value} {qual : Str} {A : Around} {E : Value → Shared → Prop} {κ : Nat → dm.O.α} {P : PySem.Fin → Shared → Prop}
    (I : Inv X pins σ H s) (ha : s.heap.get? a = some (seqObj "list" us.toArray n)) (fa : FpOk X pins H a) (hpf : (f, PySem.W.kla_obj "<lambda>" qual params body scope cl pm c' ctv) ∈ pins) (rv : Vals xs us) (h64 : xs.length < 64)
    (S : CompScope osc scope N [y] ix) (hsc : X.env.scope = osc) (hN : X.N = N) (hfr : A.frames = some X.stack) (hhd : A.handled = none) (hdp : A.depth < recursionLimit)
    (c1 : ∀ x c, cl.lookup x = some c → X.env.cells.lookup x = some c) (c2 : ∀ x, (x, NameKind.free) ∈ scope.names → ∃ c, cl.lookup x = some c) (c3 : ∀ x c, cl.lookup x = some c → (x, NameKind.free) ∈ scope.names)
    (hco : scope.isCoroutine = false) (hgen : scope.isGenerator = false) (hbind : ∀ (cdv : Value) (u : Value), bindArgs (PySem.W.kla_fn "<lambda>" qual params body scope cl pm cdv ctv) ⟨[u], []⟩ = pure [(y, u)])
    (hc : H c' = some (codeIs c' qual)) (hb : ∀ f c cl A s H, PE (lamCx X N [y] ix scope qual f c cl A s H) body te)
    (keys : ∀ i v, xs[i]? = some v → ∀ H3, Same H H3 → te (some v :: ix.map fun i => (σ.getD i none)) H3 (fun k H4 => Same H3 H4 ∧ dm.KR H4 k (κ i)))
    (h : ∀ H5 s', Same H H5 → Inv X pins σ (upd H5 a (.lst (sortedV b κ xs))) s' → H5 a = none → P (.done (.ret .none)) s') :
    wpAny (model X.prog X.w) A (ksk_tree a (.ref f) b) P E s := by
  have hlen : us.length = xs.length := r_len rv
  have ha0 : a < s.heap.objs.size := Heap.lt_size ha
  have s1 := Heap.SameBut.update s.heap a (Obj.mapSeq fun _ => (#[] : Array Value))
  obtain ⟨e1, ho1⟩ : ∃ e1, (s.heap.update a (Obj.mapSeq fun _ => (#[] : Array Value))).get? a = some (seqObj "list" #[] e1) := ⟨_, get?_update_seq ha fun _ => #[]⟩
  unfold ksk_tree
  refine wpAny_bind (listItems_at ha rfl ?_)
  refine wpAny_bind (listUpdate_at ha rfl ?_ (by rw [List.size_toArray, sizeLine_eq]; omega) (Nat.zero_le _))
  refine wpAny_bind (seqEpoch_at ho1 rfl ?_)
  refine wpAny_bind (wpAny_newTuple ?_ (by show us.length ≤ _; rw [sizeLine_eq]; omega))
  refine wpAny_bind (wpAny_newList ?_ (Nat.zero_le _))
  refine wpAny_holding ?_
  have hz1 : ((s.heap.update a (Obj.mapSeq fun _ => (#[] : Array Value))).push (seqObj "tuple" us.toArray 0)).objs.size = s.heap.objs.size + 1 := by rw [size_push', Heap.size_update]
  -- the state at the first key
  have kp1 : ∀ b o, b ≠ a → s.heap.get? b = some o → (((s.heap.update a (Obj.mapSeq fun _ => (#[] : Array Value))).push (seqObj "tuple" us.toArray 0)).push (seqObj "list" #[] 0)).get? b = some o :=
    fun b o hb q => Heap.get?_push_of_some _ (Heap.get?_push_of_some _ ((s1.2 b hb).trans q))
  have I1 : Inv X pins σ H { s with heap := ((s.heap.update a (Obj.mapSeq fun _ => (#[] : Array Value))).push (seqObj "tuple" us.toArray 0)).push (seqObj "list" #[] 0) } :=
    I.turned (t' := s.toks) kp1 fa.1 fa.2.1 fa.2.2.2.1 fa.2.2.2.2.1 fa.2.2.2.2.2
  have ha1 : (((s.heap.update a (Obj.mapSeq fun _ => (#[] : Array Value))).push (seqObj "tuple" us.toArray 0)).push (seqObj "list" #[] 0)).get? a = some (seqObj "list" #[] e1) := Heap.get?_push_of_some _ (Heap.get?_push_of_some _ ho1)
  have hk1 : (((s.heap.update a (Obj.mapSeq fun _ => (#[] : Array Value))).push (seqObj "tuple" us.toArray 0)).push (seqObj "list" #[] 0)).get? (s.heap.objs.size + 1) = some (seqObj "list" #[] 0) := by
    rw [← hz1]; exact Heap.get?_push_size _ rfl
  have hka : s.heap.objs.size + 1 ≠ a := Nat.ne_of_gt (Nat.lt_succ_of_lt ha0)
  have fk : ∀ {H' : Hp}, H' (s.heap.objs.size + 1) = none → FpOk X pins H' (s.heap.objs.size + 1) := fun hn => I.fpOk (Nat.le_succ _) hn
  have hkn : H (s.heap.objs.size + 1) = none := I.hok.fresh (Nat.le_succ _)
  generalize hs1 : ({ s with heap := ((s.heap.update a (Obj.mapSeq fun _ => (#[] : Array Value))).push (seqObj "tuple" us.toArray 0)).push (seqObj "list" #[] 0) } : Shared) = sk at I1
  have ha1' : sk.heap.get? a = some (seqObj "list" #[] e1) := by rw [← hs1]; exact ha1
  have hk1' : sk.heap.get? (s.heap.objs.size + 1) = some (seqObj "list" #[] 0) := by rw [← hs1]; exact hk1
  rw [hz1]
  show wpAny (model X.prog X.w) A (ksk_rest a (.ref f) b us.toArray e1 (.ref (s.heap.objs.size + 1))) P E _
  -- pins while the keys are made
  have pin2 : ∀ {H' : Hp} {s' : Shared} {ks : List Value} {e : Nat}, Inv X (pins ++ [(a, seqObj "list" #[] e1)]) σ H' s' → s'.heap.get? (s.heap.objs.size + 1) = some (seqObj "list" ks.toArray e) → H' (s.heap.objs.size + 1) = none →
      Inv X (pins ++ [(a, seqObj "list" #[] e1), (s.heap.objs.size + 1, seqObj "list" ks.toArray e)]) σ H' s' := fun {H' s' ks e} J hk hn => J.pins_of fun p hp => by
    rcases List.mem_append.mp hp with z | z
    · exact J.pin p (List.mem_append_right _ (List.mem_append_left _ z))
    · rcases List.mem_cons.mp z with z | z
      · exact J.pin p (List.mem_append_right _ (List.mem_append_right _ (by rw [z]; simp)))
      · rw [List.mem_singleton.mp z]
        obtain ⟨_, f1, f2, _⟩ := fk hn
        exact ⟨hk, hn, f1, f2, fun v z => by cases (show Data.seq _ _ = Data.cell v from z)⟩
  unfold ksk_rest
  refine wpAny_bind (wpAny_rule ?_)
  rw [List.forIn_toArray]
  refine wpAny_bind (ksk_fold (fun j s' => ∃ (H' : Hp) (kvs : List V) (ks : List Value) (e : Nat), Inv X (pins ++ [(a, seqObj "list" #[] e1)]) σ H' s' ∧ s'.heap.get? (s.heap.objs.size + 1) = some (seqObj "list" ks.toArray e) ∧ H' (s.heap.objs.size + 1) = none ∧ Same H H' ∧ Vals kvs ks ∧ kvs.length = j ∧ ∀ i k, kvs[i]? = some k → dm.KR H' k (κ i)) us 0 sk ?start ?step ?done)
  case start =>
    refine ⟨H, [], [], 0, I1.pins_of fun p hp => ?_, by simpa using hk1', hkn, Same.refl H, .nil, rfl, fun i k z => by simp at z⟩
    rcases List.mem_append.mp hp with z | z
    · exact I1.pin p (List.mem_append_right _ z)
    · rw [List.mem_singleton.mp z]
      exact ⟨ha1', fa.1, fa.2.1, fa.2.2.1, fun v z => by cases (show Data.seq _ _ = Data.cell v from z)⟩
  case step =>
    rintro j u s2 hu ⟨H2, kvs, ks, e, J, hk, hn, sm, rk, hl, hr⟩
    rw [Nat.zero_add] at hl ⊢
    obtain ⟨v, hv, ruv⟩ : ∃ v, xs[j]? = some v ∧ RelV v u := by
      have hj : j < xs.length := by rw [← hlen]; exact (List.getElem?_eq_some_iff.mp hu).1
      obtain ⟨u', hu', r'⟩ := rv.get (i := j) (x := xs[j]) (by simp [hj])
      rw [hu] at hu'
      cases hu'
      exact ⟨xs[j], by simp [hj], r'⟩
    have J2 := pin2 J hk hn
    have hpf2 := (J2.pin (f, _) (List.mem_append_right _ (List.mem_append_left _ hpf))).1
    have hrun := lam_run (Q := fun k H4 => Same H2 H4 ∧ dm.KR H4 k (κ j)) J2 S hsc hN hfr hhd hdp c1 c2 c3 hco hgen hbind hpf2 (sm _ _ hc) ruv hb (keys j v hv H2 sm)
    refine wpAny_bind (wpAny_attempt (wpAny_call (codeAny_mono hrun fun r s3 hq => ?_)))
    cases r with
    | error x => exact False.elim hq
    | ok fl =>
      cases fl with
      | next => exact False.elim hq
      | brk => exact False.elim hq
      | cont => exact False.elim hq
      | ret ku =>
        obtain ⟨k, H3, J3, rku, sm3, hkr⟩ := J2.after hq
        have hk3 := (J3.pin (s.heap.objs.size + 1, seqObj "list" ks.toArray e) (List.mem_append_right _ (by simp))).1
        have hn3 := (J3.pin (s.heap.objs.size + 1, seqObj "list" ks.toArray e) (List.mem_append_right _ (by simp))).2.1
        have J3' : Inv X (pins ++ [(a, seqObj "list" #[] e1)]) σ H3 s3 := J3.pins_of fun p hp => J3.pin p (List.mem_append_right _ (by
          rcases List.mem_append.mp hp with z | z
          · exact List.mem_append_left _ z
          · exact List.mem_append_right _ (by rw [List.mem_singleton.mp z]; simp)))
        have hkl : ks.length ≤ 64 := by rw [r_len rk, hl]; have := (List.getElem?_eq_some_iff.mp hv).1; omega
        have su := Heap.SameBut.update s3.heap (s.heap.objs.size + 1) (Obj.mapSeq (·.push ku))
        obtain ⟨e', hu2⟩ : ∃ e', (s3.heap.update (s.heap.objs.size + 1) (Obj.mapSeq (·.push ku))).get? (s.heap.objs.size + 1) = some (seqObj "list" (ks ++ [ku]).toArray e') := by
          have e2 : (ks ++ [ku]).toArray = ks.toArray.push ku := by simp
          rw [e2]; exact ⟨_, get?_update_seq hk3 (·.push ku)⟩
        show wpAny _ _ (Builtin.List.listUpdate (.ref (s.heap.objs.size + 1)) (·.push ku) >>= _) _ _ s3
        refine wpAny_bind (listUpdate_at hk3 rfl ?_ (by rw [List.size_toArray, sizeLine_eq]; omega) (Nat.le_trans (Nat.le_of_eq (Array.size_push ..)) (by rw [List.size_toArray, sizeLine_eq]; omega)))
        have fk3 : FpOk X (pins ++ [(a, seqObj "list" #[] e1)]) H3 (s.heap.objs.size + 1) := by
          obtain ⟨g0, g1, g2, g3, g4, g5⟩ := fk hn3
          refine ⟨g0, g1, g2, g3, g4, fun p hp => ?_⟩
          rcases List.mem_append.mp hp with z | z
          · exact g5 p (List.mem_append_left _ z)
          · rcases List.mem_append.mp z with z | z
            · exact g5 p (List.mem_append_right _ z)
            · rw [List.mem_singleton.mp z]; exact Ne.symm hka
        refine wpAny_pure ⟨rfl, H3, kvs ++ [k], ks ++ [ku], e', J3'.turned (t' := s3.toks) (fun b o hb' q => (su.2 b hb').trans q) fk3.1 fk3.2.1 fk3.2.2.2.1 fk3.2.2.2.2.1 fk3.2.2.2.2.2, hu2, hn3, sm.trans sm3, rk.append (.cons rku .nil), by simp [hl], fun i k' hi => ?_⟩
        · by_cases hil : i < kvs.length
          · rw [List.getElem?_append_left hil] at hi
            exact dm.mono (fun b xs q => sm3 b _ q) (hr i k' hi)
          · rw [List.getElem?_append_right (by omega)] at hi
            have hi0 : i = kvs.length := by
              by_cases z : i - kvs.length = 0
              · omega
              · rw [List.getElem?_eq_none (by simp; omega)] at hi; cases hi
            subst hi0
            simp at hi
            subst hi
            rw [hl]
            exact hkr
  case done =>
    rintro s2 ⟨H2, kvs, ks, e, J, hk, hn, sm, rk, hl, hr⟩
    rw [Nat.zero_add] at hl
    have hkl : ks.length = us.length := by rw [r_len rk, hl]
    have ha2 := (J.pin (a, seqObj "list" #[] e1) (List.mem_append_right _ (by simp))).1
    have haN : H2 a = none := (J.pin (a, seqObj "list" #[] e1) (List.mem_append_right _ (by simp))).2.1
    have J' : Inv X pins σ H2 s2 := J.unpinned
    refine wpAny_bind (listItems_at hk rfl ?_)
    have kr : ∀ i, i < xs.length → ∃ k ku, (PySem.W.katRev b ks).getD i Value.none = ku ∧ RelV k ku ∧ dm.KR H2 k (κ (if b then xs.length - 1 - i else i)) := fun i hi => by
      have hkv : kvs.length = xs.length := by rw [hl, hlen]
      have r2 := Vals.katRev b rk
      have hi2 : i < (PySem.W.katRev b kvs).length := by rw [PySem.W.kat_len, hkv]; exact hi
      obtain ⟨ku, hku, rr⟩ := r2.get (i := i) (x := (PySem.W.katRev b kvs)[i]) (by simp [hi2])
      refine ⟨_, ku, by rw [List.getD_eq_getElem?_getD, hku]; rfl, rr, ?_⟩
      cases b with
      | false => exact hr i _ (by rw [List.getElem?_eq_getElem (by rw [hkv]; exact hi)]; rfl)
      | true =>
        refine hr (xs.length - 1 - i) _ ?_
        have hlt : xs.length - 1 - i < kvs.length := by rw [hkv]; omega
        rw [List.getElem?_eq_getElem hlt]
        congr 1
        show kvs[xs.length - 1 - i] = kvs.reverse[i]'(by simpa using (by rw [hkv]; exact hi))
        rw [List.getElem_reverse]
        congr 1
        omega
    refine sort_end (κ := fun i => κ (if b then xs.length - 1 - i else i)) (κk := dm.κk) hk ha2 hka hkl (by omega) (fun h2 => ?_) (fun h2 i j C hi hj hC => ?_) fun h' k' ⟨n', hA⟩ hK => ?_
    · refine dm.kind J' rk (fun v hv => ?_) (by omega)
      obtain ⟨i, hi, rfl⟩ := List.mem_iff_getElem.mp hv
      exact ⟨_, hr i _ (by simp [hi])⟩
    · obtain ⟨k1, u1, e1', r1, q1⟩ := kr i (by omega)
      obtain ⟨k2, u2, e2', r2, q2⟩ := kr j (by omega)
      rw [e1', e2']
      exact dm.lt J' r1 r2 q1 q2 hC
    · obtain ⟨g0, g1, g2, g3, g4, g5⟩ := fk hn
      obtain ⟨f0, f1, f2, f3, f4, f5⟩ := fa
      refine h H2 _ sm ?_ haN
      refine J'.write2 (e := s.heap.objs.size + 1) (p := a) ⟨g0, g1, g2, g3, g4, g5⟩ ⟨haN, f1, f2, f3, f4, f5⟩ (fun b' o hb1 hb2 q => k' b' o hb1 hb2 q) ?_
      refine ⟨?_, sortedOf b (fun i => κ (if b then xs.length - 1 - i else i)) us, n', sorted_rel rv, hA⟩
      have := r_len (sorted_rel (κ := κ) (b := b) rv)
      rw [sortedOf_len] at this
      rw [sizeLine_eq]
      omega
end
end L2

namespace L2
open PySem PySem.Spec PyProof.Rows Fb
section
variable {X : Cx}
/-! ### sorted(xs) of ints -/
theorem call_sortedI : CallR X (.builtin "sorted") (fun xs H Q => ∃ (a : Addr) (ns : List Int), xs = [.ref a] ∧ SqL X.K H a (ns.map V.int) ∧ ns.length < 64 ∧ ∀ (ms : List Int) (D : Addr), ms.Perm ns → ms.Pairwise (fun x y => x ≤ y) → H D = none → Q (.ref D) (upd H D (.lst (ms.map V.int)))) := by
  intro pins s σ H xs us Q I r h
  obtain ⟨a, ns, rfl, hq, h64, q⟩ := h
  obtain ⟨u, rfl, ru⟩ := vals1 r
  cases ru
  obtain ⟨its, rv, pl, hz⟩ := I.list hq
  have hi := intsAre_of rv
  have hl : its.length = ns.length := by have := rv.length; rw [List.length_map] at this; exact this.symm
  refine sorted_ints pl.isList hi (by omega) fun out ms h1 h2 h3 => ?_
  obtain ⟨e, he⟩ := sortedAll_at s.heap its out
  have rm : Vals (ms.map V.int) out.toList := vals_ints h1
  refine ⟨.ref (s.heap.objs.size + 1), upd H (s.heap.objs.size + 1) (.lst (ms.map V.int)), I.laid (t' := s.toks) (fun b o z => sortedAll_old z) (Nat.le_succ _) ⟨?_, out.toList, e, rm, by simpa using he⟩, rfl, q ms _ h2 h3 (I.hok.fresh (Nat.le_succ _))⟩
  rw [List.length_map, h2.length_eq, sizeLine_eq]
  omega
/-! ### == and != of lists of ints; a tuple and itself; a list and the empty one -/
def rEqI (K : PySem.W.Frag) (neg : Bool) : R2 := fun x y H Q => ∃ (a b : Addr) (ns ms : List Int), x = .ref a ∧ y = .ref b ∧ SqL K H a (ns.map V.int) ∧ SqL K H b (ms.map V.int) ∧ Q (.bl (if neg then !decide (ns = ms) else decide (ns = ms))) H
theorem op_eqI (hu : X.A.units + 64 < cLine) : OpR X (compareOp .Eq) (rEqI X.K false) := by
  intro pins s σ H x y v u Q I rx ry h
  obtain ⟨a, b, ns, ms, rfl, rfl, h1, h2, q⟩ := h
  cases rx
  cases ry
  obtain ⟨its, rv, pl, hz⟩ := I.list h1
  obtain ⟨its2, rv2, pl2, hz2⟩ := I.list h2
  exact PySem.W.eq_intsK pl.isList (intsAre_of rv) pl2.isList (intsAre_of rv2) hu ⟨.bl _, H, I, rfl, q⟩
theorem op_neI (hu : X.A.units + 64 < cLine) : OpR X (compareOp .NotEq) (rEqI X.K true) := by
  intro pins s σ H x y v u Q I rx ry h
  obtain ⟨a, b, ns, ms, rfl, rfl, h1, h2, q⟩ := h
  cases rx
  cases ry
  obtain ⟨its, rv, pl, hz⟩ := I.list h1
  obtain ⟨its2, rv2, pl2, hz2⟩ := I.list h2
  exact PySem.W.ne_intsK pl.isList (intsAre_of rv) pl2.isList (intsAre_of rv2) hu ⟨.bl _, H, I, rfl, q⟩
theorem op_neSame (hu : X.A.units < cLine) : OpR X (compareOp .NotEq) (fun x y H Q => ∃ a xs, x = .ref a ∧ y = .ref a ∧ SqT X.K H a xs ∧ Q (.bl false) H) := by
  intro pins s σ H x y v u Q I rx ry h
  obtain ⟨a, xs, rfl, rfl, h1, q⟩ := h
  cases rx
  cases ry
  obtain ⟨its, rv, pl, hz⟩ := I.tuple h1
  refine SeqAt.RcNeAt.tuples (e := fun _ => true) (show s.heap.IsTuple a its.toArray from pl) pl hu (fun j h1 h2 => SeqAt.EqAt.same _) X.prog X.w X.xe _ ?_
  have e : (!((List.range (min its.toArray.size its.toArray.size)).all (fun _ => true) && its.toArray.size == its.toArray.size)) = false := by simp
  rw [e]
  exact ⟨.bl false, H, I, rfl, q⟩
theorem op_neNil (hu : X.A.units < cLine) : OpR X (compareOp .NotEq) (fun x y H Q => ∃ a b xs, x = .ref a ∧ y = .ref b ∧ SqL X.K H a xs ∧ SqL X.K H b [] ∧ Q (.bl (!xs.isEmpty)) H) := by
  intro pins s σ H x y v u Q I rx ry h
  obtain ⟨a, b, xs, rfl, rfl, h1, h2, q⟩ := h
  cases rx
  cases ry
  obtain ⟨its, rv, pl, hz⟩ := I.list h1
  obtain ⟨its2, rv2, pl2, hz2⟩ := I.list h2
  cases rv2
  cases rv with
  | nil =>
    refine SeqAt.RcNeAt.lists (e := fun _ => true) pl.isList pl2.isList rfl hu (fun j h1 h2 => absurd h1 (by simp)) X.prog X.w X.xe _ ?_
    exact ⟨.bl false, H, I, rfl, q⟩
  | cons r t =>
    refine SeqAt.RcNeAt.lists_lengths pl.isList pl2.isList (by simp) hu X.prog X.w X.xe _ ?_
    exact ⟨.bl true, H, I, rfl, q⟩
/-! ### isinstance -/
theorem call_isI : CallR X (.builtin "isinstance") (fun xs H Q => ∃ x T t b, xs = [x, .ty T] ∧ TyOf X.K H x t ∧ PySem.W.kitOne X.K t (.type T) = some b ∧ Q (.bl b) H) := by
  intro pins s σ H xs us Q I r h
  obtain ⟨x, T, t, b, rfl, ty, e, q⟩ := h
  obtain ⟨u, c, rfl, ru, rc⟩ := vals2 r
  cases rc
  exact isinst_ok I ru ty e fun tk => ⟨.bl b, H, I.tok tk, rfl, q⟩
theorem tys_of : ∀ {Ts : List String} {its : List Value}, Vals (Ts.map V.ty) its → its = Ts.map Value.type
  | [], _, .nil => rfl
  | T :: Ts, _, .cons r1 rr => by
    cases (show _ = Value.type T from r1)
    rw [tys_of rr]
    rfl
theorem call_isT : CallR X (.builtin "isinstance") (fun xs H Q => ∃ (x : V) (p : Addr) (Ts : List String) (t : Value) (b : Bool), xs = [x, .ref p] ∧ H p = some (.tup (Ts.map V.ty)) ∧ TyOf X.K H x t ∧ PySem.W.kitAny X.K t (Ts.map Value.type) = some b ∧ Q (.bl b) H) := by
  intro pins s σ H xs us Q I r h
  obtain ⟨x, p, Ts, t, b, rfl, hp, ty, e, q⟩ := h
  obtain ⟨u, c, rfl, ru, rc⟩ := vals2 r
  cases rc
  obtain ⟨_, its, rv, o, ho, hc, n, hd⟩ := I.hok p _ hp
  have ei : its = Ts.map Value.type := tys_of rv
  subst ei
  obtain ⟨oc, od, odt, osl⟩ := o
  have hc' : oc = .type "tuple" := hc
  have hd' : odt = .seq (Ts.map Value.type).toArray n := hd
  subst hc' hd'
  have fin : ∀ tk, EP X pins σ Q (.bool b) { s with toks := tk } := fun tk => ⟨.bl b, H, I.tok tk, rfl, q⟩
  cases ty with
  | non => cases (show u = Value.none from ru); exact PySem.W.kia_tup PySem.W.kitx_none I.kIn True.intro ho e (fun z => nomatch z) fin
  | bl y => cases (show u = Value.bool y from ru); exact PySem.W.kia_tup PySem.W.kitx_bool I.kIn True.intro ho e (fun z => nomatch z) fin
  | int i => obtain ⟨t, q⟩ := (show ∃ t, u = Value.int i t from ru); cases q; exact PySem.W.kia_tup PySem.W.kitx_int I.kIn True.intro ho e (fun z => nomatch z) fin
  | str y => obtain ⟨t, q⟩ := (show ∃ t, u = Value.str y t from ru); cases q; exact PySem.W.kia_tup PySem.W.kitx_str I.kIn True.intro ho e (fun z => nomatch z) fin
  | flt y => obtain ⟨t, q⟩ := (show ∃ t, u = Value.float y t from ru); cases q; exact PySem.W.kia_tup PySem.W.kitx_float I.kIn True.intro ho e (fun z => nomatch z) fin
  | @lst a xs ea =>
    cases (show u = Value.ref a from ru)
    obtain ⟨_, _, n, _, h1⟩ := (show ObjOk X.prog X.w H s.heap a (.lst xs) from I.hok a _ ea)
    exact PySem.W.kia_tup PySem.W.kitx_list I.kIn ⟨_, h1, rfl⟩ ho e (fun z => nomatch z) fin
  | @frz a ob xs ea =>
    cases (show u = Value.ref a from ru)
    obtain ⟨_, _, _, n, _, h1⟩ := (show ObjOk X.prog X.w H s.heap a (.frz ob (.lst xs)) from I.hok a _ ea)
    exact PySem.W.kia_tup PySem.W.kitx_list I.kIn ⟨_, h1, rfl⟩ ho e (fun z => nomatch z) fin
  | @tup a xs ea =>
    cases (show u = Value.ref a from ru)
    obtain ⟨_, _, _, o2, h1, h2, _⟩ := (show ObjOk X.prog X.w H s.heap a (.tup xs) from I.hok a _ ea)
    exact PySem.W.kia_tup PySem.W.kitx_tuple I.kIn ⟨o2, h1, h2⟩ ho e (fun z => nomatch z) fin
  | dK ea => 
    rename_i a kvs
    cases (show u = Value.ref a from ru)
    obtain ⟨_, _, vs, _, o2, es, ep, h1, h2, _⟩ := (show ObjOk X.prog X.w H s.heap a (.dK kvs) from I.hok a _ ea)
    exact PySem.W.kia_tup PySem.W.kitx_dict I.kIn ⟨o2, h1, h2.1⟩ ho e (fun z => nomatch z) fin
  | dT ea =>
    rename_i a kvs
    cases (show u = Value.ref a from ru)
    obtain ⟨_, _, xs, _, o2, es, ep, h1, h2, _⟩ := (show ObjOk X.prog X.w H s.heap a (.dT kvs) from I.hok a _ ea)
    exact PySem.W.kia_tup PySem.W.kitx_dict I.kIn ⟨o2, h1, h2.1⟩ ho e (fun z => nomatch z) fin
  | ins ea cl ha hn htk hm =>
    rename_i a C dx fs
    cases (show u = Value.ref a from ru)
    obtain ⟨mA, O, _⟩ := ins_get I.hok ea
    obtain ⟨od, J, _⟩ := O.look
    exact PySem.W.kia_tup (PySem.W.kitx_own (cl.get _) cl.hd ha hn htk hm) I.kIn J ho e (fun z => nomatch z) fin
example (K : PySem.W.Frag) : PySem.W.kitOne K (.type "list") (.type "tuple") = some false := by rfl
example (K : PySem.W.Frag) : PySem.W.kitOne K (.type "bool") (.type "int") = some true := by rfl
example (K : PySem.W.Frag) : PySem.W.kitAny K (.type "int") [.type "list", .type "tuple"] = some false := by rfl
end
end L2

namespace L2
open PySem PySem.Spec PyProof.Rows Fb
/-! ### list(reversed(xs)) -/
theorem rev_nolen : typeLookup (.type "list_reverseiterator") "__len__" = pure none := by rw [typeLookup_type, builtinLookup_eq_fast]; kernel_rfl
theorem rev_hint : typeLookup (.type "list_reverseiterator") "__length_hint__" = pure (some (.builtin "list_reverseiterator.__length_hint__")) := by rw [typeLookup_type, builtinLookup_eq_fast]; kernel_rfl
section
variable {prog : Program} {w : World} {A : Around} {E : Value → Shared → Prop} {s : Shared}
theorem hint_rev {it l : Addr} {i : Int} {Q : Bool → Shared → Prop} (hit : s.heap.IsRevIter it l i) (h : Q false s) : wpAny (model prog w) A (Builtin.List.listLengthHint (.ref it)) Q E s := by
  unfold Builtin.List.listLengthHint
  refine wpAny_bind (wpAny_specialOf hit.typeIs rev_nolen ?_)
  show wpAny _ A (specialOf (Value.ref it) (Str.ofString "__length_hint__") >>= _) _ _ _
  refine wpAny_bind (wpAny_specialOf hit.typeIs rev_hint ?_)
  generalize hid : ("list_reverseiterator.__length_hint__" : String) = id0
  wp_delta
  rw [show splitId id0 = some ("list_reverseiterator", "__length_hint__") from by subst hid; decide +kernel]
  subst hid
  refine wpAny_bind (wpAny_isInstance (b := true) hit.typeIs (by rw [isSubtype_type]; kernel_rfl) ?_)
  exact wpAny_pure h
/-- list(it), it a fresh reversed(l) -/
theorem call_list_rev {it l : Addr} {us : List Value} {Q : Value → Shared → Prop} (hh : A.handled = none) (hit : s.heap.IsRevIter it l ((us.length : Int) - 1)) (hl : s.heap.IsList l us.toArray) (hne : l ≠ it) (hz : us.length ≤ sizeLine)
    (h : ∀ h' tk c, (∀ b o, b ≠ it → s.heap.get? b = some o → h'.get? b = some o) → h'.get? s.heap.objs.size = some (seqObj "list" us.reverse.toArray c) → Q (.ref s.heap.objs.size) { s with heap := h', toks := tk }) :
    wpAny (model prog w) A (call (.type "list") [.ref it]) Q E s := by
  obtain ⟨oi, hoi, hci, hdi⟩ := id hit
  obtain ⟨ol, hol, _⟩ := id hl
  have hilt : it < s.heap.objs.size := Heap.lt_size hoi
  have hllt : l < s.heap.objs.size := Heap.lt_size hol
  refine callType_codes (Q₁ := fun obj s₁ => obj = .ref s.heap.objs.size ∧ s₁ = { s with heap := s.heap.push { cls := .type "list", data := .seq #[] } }) F.called_list (F.typeCall_list_1 _) F.entry_list_init (code_list_new _ ⟨rfl, rfl⟩) fun obj s₁ h₁ => ?_
  obtain ⟨rfl, rfl⟩ := h₁
  have hS : (s.heap.push { cls := .type "list", data := .seq #[] }).get? s.heap.objs.size = some { cls := .type "list", data := .seq #[] } := Heap.get?_push_size _ rfl
  refine ⟨⟨_, hS, rfl⟩, F.args_list_init_2 _ _, ?_⟩
  show wpAny _ A.in1.in1 (do let old ← Builtin.List.listItems (.ref s.heap.objs.size); Builtin.List.listUpdate (.ref s.heap.objs.size) (fun _ => #[]); letGo old.toList.reverse; Builtin.List.listExtendWith (.ref s.heap.objs.size) (.ref it) .none) _ _ _
  refine wpAny_bind (listItems_at hS rfl ?_)
  refine wpAny_bind (listUpdate_at hS rfl ?_ (Nat.zero_le _) (Nat.zero_le _))
  have hS₂ := Heap.get?_update_self (Obj.mapSeq (fun _ => (#[] : Array Value))) hS rfl
  have kp : ∀ b o, s.heap.get? b = some o → ((s.heap.push { cls := .type "list", data := .seq #[] }).update s.heap.objs.size (Obj.mapSeq (fun _ => (#[] : Array Value)))).get? b = some o :=
    fun b o e => (Heap.get?_update_other _ _ (Nat.ne_of_gt (Heap.lt_size e))).trans (Heap.get?_push_of_some _ e)
  refine wpAny_bind (wpAny_letGo ?_)
  have hit2 := hit.at fun o e => kp it o e
  have hl2 := hl.at fun o e => kp l o e
  generalize hh2 : (s.heap.push { cls := .type "list", data := .seq #[] }).update s.heap.objs.size (Obj.mapSeq (fun _ => (#[] : Array Value))) = g at hit2 hl2 hS₂ kp
  unfold Builtin.List.listExtendWith
  have hSI : s.heap.objs.size ≠ it := Nat.ne_of_gt hilt
  refine wpAny_bind (wpAny_typeOf (T := "list_reverseiterator") hit2.typeIs ?_)
  have h1 : Builtin.List.listSameRef (.ref s.heap.objs.size) (.ref it) = false := by simp [Builtin.List.listSameRef, hSI]
  rw [if_neg (by rw [h1]; decide)]
  refine wpAny_bind (wpAny_pyIter_revIter hit2 ?_)
  refine wpAny_bind (wpAny_holding (hint_rev hit2 ?_))
  rw [if_neg (by decide)]
  have W := (Walks.listRev (prog := prog) (w := w) (A := A.in1.in1) hh it l hne us.toArray).toS
  have hSf : s.heap.objs.size ∉ [it, l] := fun hm => by
    rcases List.mem_cons.mp hm with e | hm
    · exact hSI e
    · exact Nat.ne_of_gt hllt (List.mem_singleton.mp hm)
  have e0 : ((us.toArray.size : Nat) : Int) - 1 - ((0 : Nat) : Int) = (us.length : Int) - 1 := by simp
  refine wpAny_pure ⟨plainId_quiet F.plain_extend_loop _, codeAny_extend_loopS W (by simpa using hz) _ hSf _ us.toArray.size 0 _ #[] _ rfl (Nat.zero_le _) ⟨Nat.zero_le _, by rw [e0]; exact hit2, hl2⟩ hS₂ (ItemsOf.nil _) fun s' acc c hm hS' hacc => ?_⟩
  refine ⟨rfl, ?_⟩
  rw [Moved.eq_with hm]
  have ea : acc = us.reverse.toArray := by
    apply Array.ext_getElem?
    intro i
    have hsz := hacc.1
    by_cases hi : i < acc.size
    · have hi' : i < us.length := by rw [hsz] at hi; simpa using hi
      have q := hacc.2 i acc[i] (by simp [hi])
      rw [List.size_toArray] at q
      rw [Array.getElem?_eq_getElem hi, ← q]
      simp [hi', List.getElem?_reverse]
    · have hi' : us.length ≤ i := by rw [hsz] at hi; simpa using hi
      rw [Array.getElem?_eq_none (by omega), Array.getElem?_eq_none (by simpa using hi')]
  subst ea
  refine h s'.heap s'.toks c (fun b o hb e => hm.heap b o (fun hmem => ?_) (kp b o e)) hS'
  rcases List.mem_cons.mp hmem with e' | hmem
  · exact absurd (Heap.lt_size e) (by rw [e']; exact Nat.lt_irrefl _)
  · exact hb (List.mem_singleton.mp hmem)
end
theorem boot_rev : bootBuiltins "reversed" = some (.type "reversed") := by decide +kernel
theorem boot_lst : bootBuiltins "list" = some (.type "list") := by decide +kernel
section
variable {X : Cx}
def tRevL (K : PySem.W.Frag) (ta : TA) : TE := fun σ H Q => ta σ H fun vs H1 => ∃ a xs, vs = [.ref a] ∧ SqL K H1 a xs ∧ ∀ D, H1 D = none → Q (.ref D) (upd H1 D (.lst xs.reverse))
theorem pe_listRev {e : Expr} {ta : TA} {p1 p2 pos1 pos2 : Pos} (hcalm : X.calm = true) (hgl : Gl X "list") (hml : X.mg "list" = none) (hgr : Gl X "reversed") (hmr : X.mg "reversed" = none) (ha : PA X [e] ta)
    (hs1 : starEach [.Call (.Name "reversed" p2) [e] [] pos2] X.env = [(false, eval (.Call (.Name "reversed" p2) [e] [] pos2) X.env)] := by rfl) (hs2 : starEach [e] X.env = [(false, eval e X.env)] := by rfl) :
    PE X (.Call (.Name "list" p1) [.Call (.Name "reversed" p2) [e] [] pos2] [] pos1) (tRevL X.K ta) := by
  intro pins s σ H Q I h
  refine wpAny_Call_Name_kw (ld_blt I hgl hml boot_lst ?_)
  refine PyProof.Rows.callWith_type1 ?_ hs1 rfl
  rw [hs1]
  refine Calls.spliced_cons ?_
  refine wpAny_Call_Name_kw (ld_blt I hgr hmr boot_rev ?_)
  refine PyProof.Rows.callWith_type1 (thn (ha pos2 pins s σ H _ I h) fun us s1 ⟨vs, H1, I1, r1, q1⟩ => ?_) hs2 rfl
  obtain ⟨a, xs, rfl, hq, q⟩ := q1
  obtain ⟨u, rfl, ru⟩ := vals1 r1
  cases ru
  obtain ⟨its, rv, pl, hz⟩ := I1.list hq
  refine call_reversed_list pl.isList (Calls.spliced_nil ?_)
  have I2 : Inv X pins σ H1 { s1 with heap := s1.heap.push (revObj a ((its.toArray.size : Int) - 1)) } := I1.kept (t' := s1.toks) fun b o z => Heap.get?_push_of_some _ z
  obtain ⟨its2, rv2, pl2, hz2⟩ := I2.list hq
  have hit : (s1.heap.push (revObj a ((its.toArray.size : Int) - 1))).IsRevIter s1.heap.objs.size a ((its2.length : Int) - 1) := by
    have e1 : its2.length = its.toArray.size := by rw [List.size_toArray, r_len rv2, r_len rv]
    rw [e1]
    exact ⟨_, Heap.get?_push_size _ rfl, rfl, rfl⟩
  obtain ⟨oa, hoa, _⟩ := pl.isList
  have hne : a ≠ s1.heap.objs.size := Nat.ne_of_lt (Heap.lt_size hoa)
  refine call_list_rev (I.ok.hd hcalm) hit pl2.isList hne (by rw [r_len rv2]; exact hz2) fun h' tk c kp hN => ?_
  have hsz : (s1.heap.push (revObj a ((its.toArray.size : Int) - 1))).objs.size = s1.heap.objs.size + 1 := Heap.size_push ..
  have hsz' : ({ s1 with heap := s1.heap.push (revObj a ((its.toArray.size : Int) - 1)) } : Shared).heap.objs.size = s1.heap.objs.size + 1 := hsz
  rw [hsz'] at hN ⊢
  have fI : FpOk X pins H1 s1.heap.objs.size := I1.fpOk (Nat.le_refl _) (I1.hok.fresh (Nat.le_refl _))
  refine ⟨.ref (s1.heap.objs.size + 1), upd H1 (s1.heap.objs.size + 1) (.lst xs.reverse), I2.turn2 fI fI (by rw [hsz']; exact Nat.le_refl _) (fun b o hb _ z => kp b o hb z) ?_, rfl, q _ (I1.hok.fresh (Nat.le_succ _))⟩
  exact ⟨by rw [List.length_reverse]; exact hz2, its2.reverse, c, rv2.reverse, hN⟩
end
end L2

namespace L2
open PySem PySem.Spec PyProof.Rows Fb
/-! ### the head, where defs of the text make lambdas -/
theorem noTab_lookup {K : PySem.W.Frag} {h : Heap} {P : Addr} (X : K.In h) (hK : PySem.W.noTabs K = true) (hP : h.get? P = some (PySem.W.tabObj #[])) : K.lookup P = none := by
  cases e : K.lookup P with
  | none => rfl
  | some o =>
    have e1 := X P o e
    rw [hP] at e1
    cases e1
    have h2 := List.all_eq_true.mp hK (P, _) (PySem.W.mem_of_lookupK e)
    exact absurd (show false = true from h2) Bool.false_ne_true
theorem lawT_call {P : Program} {w : World} {K : PySem.W.Frag} {mg mb : Str → Option Value} {k : Nat} {fa a : Addr} {fd : FuncData} {x : Str} {sp : Sp} {s₁ : Shared} {vs : List Value} {ns : List Int} {Ts : List Tab}
    (KX : K.In s₁.heap) (hns : s₁.heap.Ns mainGlobals mg) (hb : s₁.heap.Ns builtinsNs mb) (hbb : ∀ x : Str, x ≠ "__name__" → mb x = bootBuiltins x) (hlim : s₁.heap.NoLimit) (hg : s₁.gens = #[]) (hbm : BMain mg s₁.heap)
    (ha : s₁.heap.get? a = some { cls := .type "list", data := .seq vs.toArray }) (hi : IntsAre vs ns) (hl : ns.length ≤ sizeLine) (hr : Room k callerA)
    (hT : ∀ T ∈ Ts, s₁.heap.get? T.P = some (PySem.W.tabObj #[]) ∧ K.lookup T.P = none ∧ ∃ c, PySem.W.CodeHd s₁.heap c T.P)
    (F : ∀ base : Heap, K.In base → base.Ns mainGlobals mg → BMain mg base → FnOk P w K mg base CX0 k fa fd [x] sp) (hbind : ∀ (s : Shared) (u : Value), BindsTo s fd ⟨[u], []⟩ [(x, u)])
    (hsp : ∀ H : Hp, (∀ T ∈ Ts, H T.P = some (.tbl #[])) → (∀ b ps, H b = some (.tbl ps) → ∃ T ∈ Ts, T.P = b) → SqL K H a (ns.map V.int) → sp [.ref a] H (fun v _ => v = .bl true) fun _ _ _ => False) :
    codeAny (model P w) callerA (.call (.ref fa) ⟨[.ref a], []⟩) (fun r s' => r = .ok (.ret (.bool true)) ∧ OldK s₁.heap s'.heap ∧ s'.os = s₁.os ∧ AllBare s'.gens) s₁ := by
  have rv := vals_ints hi
  have lenV := hi.length
  have aT : ∀ T ∈ Ts, T.P ≠ a := fun T hm z => by
    have := (hT T hm).1
    rw [z, ha] at this
    cases this
  -- what is tracked: the script (where it is no object of the module), the tables
  have core : ∀ H : Hp, (∀ b, H b = none ∨ (b = a ∧ H b = some (.frz { cls := .type "list", data := .seq vs.toArray } (.lst (ns.map V.int)))) ∨ ∃ T ∈ Ts, T.P = b ∧ H b = some (.tbl #[])) → SqL K H a (ns.map V.int) → (∀ T ∈ Ts, H T.P = some (.tbl #[])) → (H a ≠ none → K.lookup a = none) →
      codeAny (model P w) callerA (.call (.ref fa) ⟨[.ref a], []⟩) (fun r s' => r = .ok (.ret (.bool true)) ∧ OldK s₁.heap s'.heap ∧ s'.os = s₁.os ∧ AllBare s'.gens) s₁ := by
    intro H hO hS hTb hK
    have hok : HOk P w H s₁.heap := fun b u z => by
      rcases hO b with q | ⟨rfl, q⟩ | ⟨T, hm, e, q⟩
      · rw [q] at z; cases z
      · rw [q] at z
        cases z
        exact ⟨ha, by rw [List.length_map]; exact hl, vs, _, rv, ha⟩
      · rw [q] at z
        cases z
        subst e
        exact (hT T hm).1
    have base_of : ∀ {b : Addr} {o : Obj}, s₁.heap.get? b = some o → H b = none → (hidT s₁.heap H).get? b = some o := fun e n => hidT_get e n
    have clsN : ∀ {b : Addr} {o : Obj}, s₁.heap.get? b = some o → o.cls ≠ .type "list" → o.cls ≠ .none → H b = none := fun {b o} e n1 n2 => by
      rcases hO b with q | ⟨rfl, q⟩ | ⟨T, hm, e', q⟩
      · exact q
      · rw [ha] at e; cases e; exact absurd rfl n1
      · subst e'
        rw [(hT T hm).1] at e
        cases e
        exact absurd rfl n2
    have datN : ∀ {b : Addr} {o : Obj} {es : Array DictEntry} {ep : Nat}, s₁.heap.get? b = some o → o.data = .dict es ep → H b = none := fun {b o es ep} e d => by
      rcases hO b with q | ⟨rfl, q⟩ | ⟨T, hm, e', q⟩
      · exact q
      · rw [ha] at e; cases e; cases d
      · subst e'
        rw [(hT T hm).1] at e
        cases e
        cases d
    have nsK : ∀ {b : Addr} {m : Str → Option Value}, s₁.heap.Ns b m → (hidT s₁.heap H).Ns b m := fun {b m} ⟨o, es, ep, e, d, r⟩ => ⟨o, es, ep, base_of e (datN e d), d, r⟩
    have hKb : K.In (hidT s₁.heap H) := fun b o e => base_of (KX b o e) (by
      rcases hO b with q | ⟨rfl, q⟩ | ⟨T, hm, e', q⟩
      · exact q
      · rw [hK (by rw [q]; simp)] at e; cases e
      · subst e'
        rw [(hT T hm).2.1] at e; cases e)
    have hM : Mod K mg (hidT s₁.heap H) := ⟨hKb, nsK hns, ⟨mb, nsK hb, hbb⟩, let ⟨mc, h1, h2⟩ := hlim; ⟨mc, nsK h1, h2⟩⟩
    have hBM : BMain mg (hidT s₁.heap H) := by
      obtain ⟨bm, ob, b1, b2, b3, b4, b5, b6⟩ := hbm
      exact ⟨bm, ob, b1, b2, base_of b3 (clsN b3 (by rw [b4]; decide) (by rw [b4]; intro z; cases z)), b4, b5, b6⟩
    have e0 : Env0 P w K mg (hidT s₁.heap H) callerA [] s₁ H := ⟨rfl, hM, fun b o e => of_hidT e, Nat.le_of_eq (hidT_size _ _), trivial, fun b hb => absurd (show b ∈ ([] : List Addr) from hb) (by simp), hok, .of_eq hg⟩
    have hTonly : ∀ b ps, H b = some (.tbl ps) → ∃ T ∈ Ts, T.P = b := fun b ps z => by
      rcases hO b with q | ⟨_, q⟩ | ⟨T, hm, e', q⟩
      · rw [q] at z; cases z
      · rw [q] at z; cases z
      · exact ⟨T, hm, e'⟩
    refine codeAny_mono ((F _ hKb (nsK hns) hBM).run callerA [] s₁ H ⟨[.ref a], []⟩ [.ref a] [.ref a] _ _ hr e0 (hbind s₁ (.ref a)) (.cons rfl .nil) (hsp H hTb hTonly hS)) fun r s' h => ?_
    cases r with
    | error e => exact False.elim h
    | ok fl =>
      cases fl with
      | next => exact False.elim h
      | brk => exact False.elim h
      | cont => exact False.elim h
      | ret u =>
        obtain ⟨v, H', os, bare, un, hok', r', q⟩ := h
        have q' : v = .bl true := q
        subst q'
        obtain rfl : u = Value.bool true := r'
        refine ⟨rfl, ⟨fun b o e => ?_, fun b o e => un.there b o e (by simp)⟩, os, bare⟩
        rcases hO b with z | ⟨_, z⟩ | ⟨T, hm, e', z⟩
        · exact .inl (un.keep b o e z (by intro y; exact absurd (show b ∈ ([] : List Addr) from y) (by simp)) (by simp))
        · have z2 := un.frzs b _ _ z
          obtain ⟨e1, _⟩ := hok b _ z
          obtain ⟨e2, _⟩ := hok' b _ z2
          rw [e] at e1; cases e1
          exact .inl e2
        · obtain ⟨more, z2⟩ := un.tbls b _ z
          have e2 : s'.heap.get? b = some { cls := .none, data := .fields (#[] ++ more) } := hok' b _ z2
          obtain ⟨ht1, ht2, c, hc⟩ := hT T hm
          have hct := (hc.tab ht1).isCodeTable
          rw [e'] at hct ht1
          rw [ht1] at e
          cases e
          exact .inr (.inl ⟨hct, rfl, #[], more, rfl, e2⟩)
  cases hk : K.lookup a with
  | some o =>
    have e := KX a o hk
    rw [ha] at e
    cases e
    refine core (fun b => if b ∈ Ts.map (·.P) then some (.tbl #[]) else none) (fun b => ?_) (.inr ⟨_, vs.toArray, _, hk, rfl, rfl, rfl, by rw [List.size_toArray, lenV]; exact hl, by simpa using rv⟩) (fun T hm => if_pos (List.mem_map_of_mem hm)) fun z => ?_
    · by_cases hb' : b ∈ Ts.map (·.P)
      · obtain ⟨T, hm, e⟩ := List.mem_map.mp hb'
        exact .inr (.inr ⟨T, hm, e, if_pos hb'⟩)
      · exact .inl (if_neg hb')
    · have hna : a ∉ Ts.map (·.P) := fun hm => by
        obtain ⟨T, hm, e⟩ := List.mem_map.mp hm
        exact aT T hm e
      exact absurd (if_neg hna) z
  | none =>
    refine core (fun b => if b = a then some (.frz { cls := .type "list", data := .seq vs.toArray } (.lst (ns.map V.int))) else if b ∈ Ts.map (·.P) then some (.tbl #[]) else none) (fun b => ?_) (.inl (.inr ⟨{ cls := .type "list", data := .seq vs.toArray }, if_pos rfl⟩)) (fun T hm => ?_) fun _ => hk
    · by_cases hba : b = a
      · exact .inr (.inl ⟨hba, if_pos hba⟩)
      · by_cases hb' : b ∈ Ts.map (·.P)
        · obtain ⟨T, hm, e⟩ := List.mem_map.mp hb'
          exact .inr (.inr ⟨T, hm, e, by rw [if_neg hba, if_pos hb']⟩)
        · exact .inl (by rw [if_neg hba, if_neg hb'])
    · show (if T.P = a then _ else if T.P ∈ Ts.map (·.P) then _ else _) = _
      rw [if_neg (aT T hm), if_pos (List.mem_map_of_mem hm)]
theorem walk_T {l : PySem.W.OpenLaw} {n k : Nat} {q : Program} {loose : List Str} {XP : (Str → Option Value) → Heap → Prop} {YP : World → Heap → Prop} {d : DefRec} {K : Params → PySem.W.Frag} {x : Str} {ts : List Addr} {spL : PySem.W.Frag → List Tab → Sp}
    (hn : l.most = some n) (hn2 : n ≤ sizeLine) (hdf : d.params.defaults = []) (hr : Room k callerA)
    (hY : ∀ (w : World) (h : Heap), YP w h → (K w.params).In h) (hYT : ∀ (w : World) (h : Heap), YP w h → ∀ P ∈ ts, h.get? P = some (PySem.W.tabObj #[])) (hK : ∀ P : Params, PySem.W.noTabs (K P) = true)
    (F : ∀ (w : World) (mg : Str → Option Value) (fa : Addr) (h : Heap), (K w.params).In h → h.Ns mainGlobals mg → mg d.name = some (.ref fa) →
      ∃ (Ts : List Tab) (fd : FuncData), (∀ T ∈ Ts, T.P ∈ ts ∧ ∃ c, PySem.W.CodeHd h c T.P) ∧ (∀ (s : Shared) (u : Value), BindsTo s fd ⟨[u], []⟩ [(x, u)]) ∧
        ∀ base : Heap, (K w.params).In base → base.Ns mainGlobals mg → BMain mg base → FnOk l.prog w (K w.params) mg base CX0 k fa fd [x] (spL (K w.params) Ts))
    (hsp : ∀ (K : PySem.W.Frag) (Ts : List Tab) (H : Hp) (a : Addr) (ns : List Int), ns.length ≤ n → (∀ T ∈ Ts, H T.P = some (.tbl #[])) → (∀ b ps, H b = some (.tbl ps) → ∃ T ∈ Ts, T.P = b) → SqL K H a (ns.map V.int) → spL K Ts [.ref a] H (fun v _ => v = .bl true) fun _ _ _ => False) :
    PySem.W.WalkO q loose XP YP l.row.toRowW d [] (fun f vs => PySem.call f vs) := by
  refine Att.attach_call hn hdf fun w s₀ s₁ mg mb fa o pm cd doc a vs ns G Y ho hd hcd hmg hobj hints hlen hg => ?_
  have KX := hY w _ Y
  obtain ⟨Ts, fd, hT, hb, hF⟩ := F w mg fa _ KX G.T.g hmg
  have hbm : BMain mg s₁.heap := G.T.bmain
  exact lawT_call KX G.T.g G.T.b G.T.builtins G.T.nolimit hg hbm hobj hints (Nat.le_trans hlen hn2) hr
    (fun T hm => ⟨hYT w _ Y _ (hT T hm).1, noTab_lookup KX (hK _) (hYT w _ Y _ (hT T hm).1), (hT T hm).2⟩) hF hb fun H h1 h2 h3 => hsp (K w.params) Ts H a ns hlen h1 h2 h3
end L2

namespace Fb
open PySem L2 PyProof.Rows
/-! ### the data: jobs and places on the heap -/
abbrev IntV (n : Nat) : V := V.int (n : Int)
/-- a list of pairs -/
structure JobsAt (H : Hp) (a : Addr) (ts : List Addr) (js : List Job) : Prop where
  lst : H a = some (.lst (ts.map V.ref))
  len : ts.length = js.length
  tup : ∀ (i : Nat) (t : Addr) (j : Job), ts[i]? = some t → js[i]? = some j → H t = some (.tup [.int j.1, .int j.2])
theorem JobsAt.grow {Ts : List Tab} {H H' : Hp} {a : Addr} {ts : List Addr} {js : List Job} (J : JobsAt H a ts js) (g : Grow Ts H H') : JobsAt H' a ts js :=
  ⟨g.lst J.lst, J.len, fun i t j h1 h2 => g.tup (J.tup i t j h1 h2)⟩
theorem JobsAt.same {H H' : Hp} {a : Addr} {ts : List Addr} {js : List Job} (J : JobsAt H a ts js) (g : Same H H') : JobsAt H' a ts js :=
  ⟨g _ _ J.lst, J.len, fun i t j h1 h2 => g _ _ (J.tup i t j h1 h2)⟩
def endOf (js : List Job) (p : Nat) : Int := (js.getD p (0, 0)).1
def fineOf (js : List Job) (p : Nat) : Int := (js.getD p (0, 0)).2
/-- the job at a place -/
theorem JobsAt.get {H : Hp} {a : Addr} {ts : List Addr} {js : List Job} (J : JobsAt H a ts js) {p : Nat} (hp : p < js.length) :
    ∃ t, atI (ts.map V.ref) (p : Int) = some (.ref t) ∧ H t = some (.tup [.int (endOf js p), .int (fineOf js p)]) := by
  have hp' : p < ts.length := by rw [J.len]; exact hp
  refine ⟨ts[p], atI_nat (by simp [hp']), ?_⟩
  have := J.tup p ts[p] js[p] (by simp [hp']) (by simp [hp])
  have e : js.getD p (0, 0) = js[p] := by simp [hp]
  unfold endOf fineOf
  rw [e]
  exact this
theorem at0 (x y : V) : atI [x, y] (0 : Int) = some x := rfl
theorem at1 (x y : V) : atI [x, y] (1 : Int) = some y := rfl
theorem good_get {js : List Job} (g : Good js) {p : Nat} (hp : p < js.length) : 1 ≤ endOf js p ∧ 0 ≤ fineOf js p := by
  have e : js.getD p (0, 0) = js[p] := by simp [hp]
  unfold endOf fineOf
  rw [e]
  exact g js[p] (List.getElem_mem hp)
theorem map_int_get {ps : List Nat} {i : Nat} {x : V} (h : (ps.map IntV)[i]? = some x) : ∃ p, ps[i]? = some p ∧ x = IntV p := by
  rw [List.getElem?_map] at h
  cases e : ps[i]? with
  | none => rw [e] at h; cases h
  | some p => rw [e] at h; exact ⟨p, rfl, (Option.some.inj h).symm⟩
theorem map_ref_get {ts : List Addr} {i : Nat} {x : V} (h : (ts.map V.ref)[i]? = some x) : ∃ t, ts[i]? = some t ∧ x = .ref t := by
  rw [List.getElem?_map] at h
  cases e : ts[i]? with
  | none => rw [e] at h; cases h
  | some p => rw [e] at h; exact ⟨p, rfl, (Option.some.inj h).symm⟩
theorem map_z_get {ns : List Int} {i : Nat} {x : V} (h : (ns.map V.int)[i]? = some x) : ∃ p, ns[i]? = some p ∧ x = .int p := by
  rw [List.getElem?_map] at h
  cases e : ns[i]? with
  | none => rw [e] at h; cases h
  | some p => rw [e] at h; exact ⟨p, rfl, (Option.some.inj h).symm⟩
/-- a list of places as a list of ints -/
abbrev asZ (ps : List Nat) : List Int := ps.map fun (n : Nat) => (n : Int)
theorem asZ_map (ps : List Nat) : (asZ ps).map V.int = ps.map IntV := by
  unfold asZ; rw [List.map_map]; rfl
/-! ### the mirror: the order by ends, the tick that is too full -/
abbrev keyE (js : List Job) (ps : List Nat) (i : Nat) : Int × Int := (endOf js (ps.getD i 0), ((ps.getD i 0 : Nat) : Int))
def byEnd (js : List Job) (ps : List Nat) : List Nat := (sortIx (O := ordPair) (keyE js ps) ps.length).map fun i => ps.getD i 0
theorem picks_perm (ps : List Nat) {l : List Nat} (h : l.Perm (List.range ps.length)) : (l.map fun i => ps.getD i 0).Perm ps := by
  have h1 := h.map fun i => ps.getD i 0
  have e : (List.range ps.length).map (fun i => ps.getD i 0) = ps := by
    apply List.ext_getElem
    · simp
    · intro i h1 h2
      have hi : i < ps.length := h2
      simp [hi]
  rw [e] at h1
  exact h1
theorem byEnd_perm (js : List Job) (ps : List Nat) : (byEnd js ps).Perm ps := picks_perm ps (sortIx_perm (O := ordPair) _ _)
theorem byEnd_up (js : List Job) (ps : List Nat) : (byEnd js ps).Pairwise fun p q => endOf js p ≤ endOf js q := by
  unfold byEnd
  rw [List.pairwise_map]
  refine (sortIx_up (O := ordPair) (keyE js ps) ps.length).imp fun {i j} h => ?_
  have h' : ltPair (keyE js ps j) (keyE js ps i) = false := h
  rw [ltPair_iffF] at h'
  show (keyE js ps i).1 ≤ (keyE js ps j).1
  omega
/-- the end of the first job that comes too late -/
def bad : List Int → Nat → Option Int
  | [], _ => none
  | e :: r, k => if e ≤ (k : Int) then some e else bad r (k + 1)
theorem bad_none : ∀ {l : List Int} {k : Nat}, bad l k = none → ∀ (i : Nat) e, l[i]? = some e → ((k + i : Nat) : Int) + 1 ≤ e
  | [], _, _, i, e, h => by simp at h
  | x :: r, k, hb, i, e, h => by
    unfold bad at hb
    by_cases hx : x ≤ (k : Int)
    · rw [if_pos hx] at hb; cases hb
    · rw [if_neg hx] at hb
      cases i with
      | zero => simp at h; subst h; omega
      | succ i =>
        have := bad_none hb i e (by simpa using h)
        omega
theorem bad_some : ∀ {l : List Int} {k : Nat} {t : Int}, bad l k = some t → ∃ i : Nat, l[i]? = some t ∧ t ≤ ((k + i : Nat) : Int)
  | [], _, _, h => by cases h
  | x :: r, k, t, hb => by
    unfold bad at hb
    by_cases hx : x ≤ (k : Int)
    · rw [if_pos hx] at hb
      cases hb
      exact ⟨0, rfl, by simpa using hx⟩
    · rw [if_neg hx] at hb
      obtain ⟨i, h1, h2⟩ := bad_some hb
      exact ⟨i + 1, by simpa using h1, by omega⟩
/-- what order_or_tick finds: none where the order is in time -/
def tickOf (js : List Job) (ps : List Nat) : Option Int := bad ((byEnd js ps).map (endOf js)) 0
def jobsOf (js : List Job) (ps : List Nat) : List Job := ps.map fun p => (endOf js p, fineOf js p)
theorem jobsOf_up {js : List Job} {ps : List Nat} (h : ps.Pairwise fun p q => endOf js p ≤ endOf js q) : (jobsOf js ps).Pairwise fun a b => a.1 ≤ b.1 := by
  unfold jobsOf; rw [List.pairwise_map]; exact h
theorem tick_none {js : List Job} {ps : List Nat} (h : tickOf js ps = none) : Feas (jobsOf js ps) := by
  refine feas_perm ((byEnd_perm js ps).map _) (feas_of_order fun k j hk => ?_)
  rw [List.getElem?_map] at hk
  cases e : (byEnd js ps)[k]? with
  | none => rw [e] at hk; cases hk
  | some p =>
    rw [e] at hk
    cases hk
    have := bad_none h k (endOf js p) (by rw [List.getElem?_map, e]; rfl)
    simpa using this
theorem tick_some {js : List Job} {ps : List Nat} {t : Int} (h : tickOf js ps = some t) : (t < ((jobsOf js ps).countP (fun j => decide (j.1 ≤ t)) : Int)) ∧ ∃ p ∈ ps, endOf js p = t := by
  obtain ⟨i, h1, h2⟩ := bad_some h
  rw [List.getElem?_map] at h1
  cases e : (byEnd js ps)[i]? with
  | none => rw [e] at h1; cases h1
  | some p =>
    rw [e] at h1
    have h1' : endOf js p = t := Option.some.inj h1
    have hk : (jobsOf js (byEnd js ps))[i]? = some (endOf js p, fineOf js p) := by unfold jobsOf; rw [List.getElem?_map, e]; rfl
    have q := early (jobsOf_up (byEnd_up js ps)) hk (t := t) (by show endOf js p ≤ t; omega)
    have ep : (jobsOf js (byEnd js ps)).countP (fun j => decide (j.1 ≤ t)) = (jobsOf js ps).countP (fun j => decide (j.1 ≤ t)) := ((byEnd_perm js ps).map _).countP_eq _
    refine ⟨by omega, p, (byEnd_perm js ps).mem_iff.mp (List.mem_of_getElem? e), h1'⟩
/-- those that end by a tick -/
def endBy (js : List Job) (ps : List Nat) (t : Int) : List Nat := ps.filter fun p => decide (endOf js p ≤ t)
theorem endBy_count (js : List Job) (ps : List Nat) (t : Int) : (endBy js ps t).length = (jobsOf js ps).countP (fun j => decide (j.1 ≤ t)) := by
  unfold endBy jobsOf
  rw [List.countP_map, List.countP_eq_length_filter]
  rfl
theorem ifN {c A B : Prop} [Decidable c] (hc : ¬ c) (h : B) : if decide c = true then A else B := by
  rw [decide_eq_false hc]; exact iteF h
theorem ifY {c A B : Prop} [Decidable c] (hc : c) (h : A) : if decide c = true then A else B := by
  rw [decide_eq_true hc]; exact iteT h
theorem ifD {c A B : Prop} [Decidable c] (h1 : c → A) (h2 : ¬ c → B) : if decide c = true then A else B := by
  by_cases hc : c
  · exact ifY hc (h1 hc)
  · exact ifN hc (h2 hc)
/-- a sorted list of places: ints that are places -/
theorem perm_asZ {ms : List Int} {ps : List Nat} (h : ms.Perm (asZ ps)) : ∃ qs : List Nat, ms = asZ qs ∧ qs.Perm ps := by
  refine ⟨ms.map Int.toNat, ?_, ?_⟩
  · have hm : ∀ m ∈ ms, 0 ≤ m := fun m hm => by
      obtain ⟨p, _, e⟩ := List.mem_map.mp (h.mem_iff.mp hm)
      have e' : ((p : Nat) : Int) = m := e
      omega
    unfold asZ
    rw [List.map_map]
    have : ms.map ((fun n : Nat => (n : Int)) ∘ Int.toNat) = ms.map id := List.map_congr_left fun m h => by
      have := hm m h
      show ((m.toNat : Nat) : Int) = m
      omega
    rw [this, List.map_id]
  · have h1 := h.map Int.toNat
    unfold asZ at h1
    rw [List.map_map] at h1
    have : ps.map (Int.toNat ∘ fun n : Nat => (n : Int)) = ps.map id := List.map_congr_left fun m _ => by
      show ((m : Nat) : Int).toNat = m
      omega
    rw [this, List.map_id] at h1
    exact h1
end Fb

namespace L2
open PySem PySem.Spec PyProof.Rows Fb
/-- what collect makes of a value: the items, nothing that was there is changed -/
def Collects (X : Cx) (A : Around) (s : Shared) (av : Value) (xs : List V) : Prop :=
  ∀ (Q : List Value → Shared → Prop) (E : Value → Shared → Prop), (∀ us h' tk, Vals xs us → (∀ b o, s.heap.get? b = some o → h'.get? b = some o) → s.heap.objs.size ≤ h'.objs.size → Q us { s with heap := h', toks := tk }) → wpAny (model X.prog X.w) A (collect av) Q E s
theorem collects_list {X : Cx} {A : Around} {pins : List (Addr × Obj)} {σ : St} {H : Hp} {s : Shared} {l : Addr} {xs : List V} (I : Inv X pins σ H s) (hq : SqL X.K H l xs) (hz : xs.length ≤ sizeLine) : Collects X A s (.ref l) xs := by
  obtain ⟨us, r, p, _⟩ := I.list hq
  refine fun Q E h => collect_list p.isList (h us _ s.toks r (fun b o q => ?_) ?_) (by rw [r_len r]; exact hz)
  · have hlt : b < s.heap.objs.size := Heap.lt_size q
    rw [Heap.get?_update_ne _ _ _ _ (Nat.ne_of_lt hlt), Heap.get?_push_ne _ _ _ (Nat.ne_of_lt hlt)]
    exact q
  · rw [Heap.size_update, Heap.size_push]; exact Nat.le_succ _
theorem vals_items {n : Nat} {acc : Array Value} (h : ItemsOf (fun i v => ∃ t, v = Value.int (0 + (i : Int) * 1) t) acc n) : Vals ((List.range n).map IntV) acc.toList := by
  have key : ∀ (m : Nat) (l : List Value) (k : Nat), l.length = m → (∀ j v, l[j]? = some v → ∃ t, v = Value.int ((k + j : Nat) : Int) t) → Vals ((List.range' k m).map IntV) l := by
    intro m
    induction m with
    | zero =>
      intro l k hl _
      cases l with
      | nil => exact .nil
      | cons _ _ => cases hl
    | succ m ih =>
      intro l k hl hv
      cases l with
      | nil => cases hl
      | cons x r =>
        rw [List.range'_succ, List.map_cons]
        refine .cons ?_ (ih r (k + 1) (by simpa using hl) fun j v hj => ?_)
        · obtain ⟨t, e⟩ := hv 0 x rfl
          exact ⟨t, e⟩
        · obtain ⟨t, e⟩ := hv (j + 1) v (by simpa using hj)
          refine ⟨t, ?_⟩
          rw [e]
          congr 1
          omega
  rw [List.range_eq_range']
  refine key n acc.toList 0 (by rw [Array.length_toList]; exact h.1) fun j v hj => ?_
  obtain ⟨t, e⟩ := h.2 j v (by rw [← Array.getElem?_toList]; exact hj)
  refine ⟨t, ?_⟩
  rw [e]
  congr 1
  omega
theorem collect_code {prog : Program} {w : World} {A : Around} {s : Shared} {r : Addr} {n : Nat} {t u v : Tok} {R : Result → Shared → Prop} (hh : A.handled = none) (hr : IsRange s.heap r 0 (n : Int) 1 t u v) (hn : n < 64)
    (h : ∀ h' tk acc c', (∀ b o, s.heap.get? b = some o → h'.get? b = some o) → h'.get? s.heap.objs.size = some { cls := .type "list", dict := none, data := .seq acc c', slots := #[] } → ItemsOf (fun i v => ∃ t, v = Value.int (0 + (i : Int) * 1) t) acc n → R (.ok (.ret (.ref s.heap.objs.size))) { s with heap := h', toks := tk }) :
    codeAny (model prog w) A (.builtin "proto.collect" ⟨[.ref r], []⟩) R s := by
  have hsm : Builtin.Range.small 0 (n : Int) 1 = true := small_one (by omega) (by omega) (by omega) (by omega)
  refine codeAny_builtin entry_proto_collect' ?_
  show wpAny _ _ (do again (.builtin "list.__iadd__" ⟨[← newList [], .ref r], []⟩)) _ _ s
  refine wpAny_bind (wpAny_newList (wpAny_pure ⟨Code.quiet_builtin _ (by decide +kernel), codeAny_builtin entry_list_iadd' ?_⟩))
  show wpAny _ _ (Builtin.List.listExtendWith (.ref s.heap.objs.size) (.ref r) (.ref s.heap.objs.size)) _ _ { s with heap := s.heap.push (seqObj "list" #[] 0) }
  have hr' : IsRange (s.heap.push (seqObj "list" #[] 0)) r 0 (n : Int) 1 t u v := Heap.get?_push_of_some _ hr
  refine wpAny_extend_range (R := R) (A := A) (s := { s with heap := s.heap.push (seqObj "list" #[] 0) }) (n := n) hh hr' hsm (by rw [rangeSize_one]; split <;> omega) (by omega) s.heap.objs.size (.ref s.heap.objs.size) 0 (Heap.get?_push_size _ rfl) fun h' tk acc c' hk hS hacc => ?_
  exact h h' tk acc c' (fun b o q => hk b o (Nat.ne_of_lt (Heap.lt_size q)) (Heap.get?_push_of_some _ q)) hS hacc
theorem collects_range {X : Cx} {A : Around} {s : Shared} {r : Addr} {n : Nat} {t u v : Tok} (hh : A.handled = none) (hr : IsRange s.heap r 0 (n : Int) 1 t u v) (hn : n < 64) : Collects X A s (.ref r) ((List.range n).map IntV) := by
  intro Q E h
  unfold collect
  refine wpAny_bind (wpAny_runValue (collect_code hh hr hn fun h' tk acc c' hk hS hacc => ?_))
  show wpAny (model X.prog X.w) A (do
      let o ← load s.heap.objs.size
      match o.data with
      | .seq xs _ => pure xs.toList
      | _ => unsupported "internal:collect") Q E { s with heap := h', toks := tk }
  refine wpAny_bind (wpAny_load hS ?_)
  show wpAny _ _ (pure acc.toList) Q E _
  exact wpAny_pure (h acc.toList h' tk (vals_items hacc) hk (Nat.le_of_lt (Heap.lt_size hS)))
section
variable {X : Cx} {osc scope : Scope} {N : List Str} {y : Str} {ix : List Nat} {params : Arguments} {body : Expr} {te : TE} {T : Tab} {c : Addr} (dm : KeyDom)
/-- sorted(..) with a lambda as key, from the made lambda on -/
theorem sorted_call {pins : List (Addr × Obj)} {σ : St} {H : Hp} {s : Shared} {f c' : Addr} {xs : List V} {av : Value} {b : Bool} {cl : List (Str × Addr)} {pm ctv : Value} {qual : Str} {E : Value → Shared → Prop} {κ : Nat → dm.O.α} {kw : List (Str × Value)} {Q : VK}
    (I : Inv X pins σ H s) (hcol : Collects X X.A.in1 s av xs) (ff : FpOk X pins H f) (hf : s.heap.get? f = some (PySem.W.kla_obj "<lambda>" qual params body scope cl pm c' ctv)) (h64 : xs.length < 64)
    (S : CompScope osc scope N [y] ix) (hsc : X.env.scope = osc) (hN : X.N = N) (hhd : X.A.handled = none) (hdp : X.A.depth < recursionLimit)
    (c1 : ∀ x c, cl.lookup x = some c → X.env.cells.lookup x = some c) (c2 : ∀ x, (x, NameKind.free) ∈ scope.names → ∃ c, cl.lookup x = some c) (c3 : ∀ x c, cl.lookup x = some c → (x, NameKind.free) ∈ scope.names)
    (hco : scope.isCoroutine = false) (hgen : scope.isGenerator = false) (hbind : ∀ (cdv : Value) (u : Value), bindArgs (PySem.W.kla_fn "<lambda>" qual params body scope cl pm cdv ctv) ⟨[u], []⟩ = pure [(y, u)])
    (hc : H c' = some (codeIs c' qual)) (hb : ∀ f c cl A s H, PE (lamCx X N [y] ix scope qual f c cl A s H) body te)
    (ha1 : argsOk "sorted" ⟨[av], kw⟩) (ha2 : ∀ x, argsOk "list.sort" ⟨[.ref x], kw⟩) (ht : ∀ x, Builtin.«list.sort» ⟨[.ref x], kw⟩ = ksk_tree x (.ref f) b)
    (keys : ∀ i v, xs[i]? = some v → ∀ H3, Same H H3 → te (some v :: ix.map fun i => (σ.getD i none)) H3 (fun k H4 => Same H3 H4 ∧ dm.KR H4 k (κ i)))
    (h : ∀ H5 a, Same H H5 → H5 a = none → Q (.ref a) (upd H5 a (.lst (sortedV b κ xs)))) :
    wpAny (model X.prog X.w) X.A (call (.builtin "sorted") [av] kw) (EP X pins σ Q) E s := by
  refine call_function_entry_kw kind_sorted plain_sorted entry_sorted ha1 ?_
  unfold Builtin.«sorted»
  refine wpAny_bind (m := checkCount "sorted" 1 1 _) (wpAny_pure ?_)
  refine wpAny_bind (hcol _ _ fun us h1 tk rv kp hsz => ?_)
  refine wpAny_bind (wpAny_newList ?_ (by rw [r_len rv, sizeLine_eq]; omega))
  have I1 : Inv X (pins ++ [(f, PySem.W.kla_obj "<lambda>" qual params body scope cl pm c' ctv)]) σ H { s with heap := h1.push (seqObj "list" us.toArray 0), toks := tk } := by
    refine Inv.pins_of (I.kept (t' := tk) fun b o q => Heap.get?_push_of_some _ (kp b o q)) fun p hp => ?_
    rcases List.mem_append.mp hp with z | z
    · have q := I.pin p (List.mem_append_right _ z)
      exact ⟨Heap.get?_push_of_some _ (kp _ _ q.1), q.2⟩
    · rw [List.mem_singleton.mp z]
      exact ⟨Heap.get?_push_of_some _ (kp _ _ hf), ff.1, ff.2.1, ff.2.2.1, fun v z => by cases (show Data.func _ = Data.cell v from z)⟩
  have hoL : (h1.push (seqObj "list" us.toArray 0)).get? h1.objs.size = some (seqObj "list" us.toArray 0) := Heap.get?_push_size _ rfl
  have fa : FpOk X (pins ++ [(f, PySem.W.kla_obj "<lambda>" qual params body scope cl pm c' ctv)]) H h1.objs.size := by
    obtain ⟨g0, g1, g2, g3, g4, g5⟩ := I.fpOk hsz (I.hok.fresh hsz)
    refine ⟨g0, g1, g2, g3, g4, fun p hp => ?_⟩
    rcases List.mem_append.mp hp with z | z
    · exact g5 p (List.mem_append_left _ z)
    · rcases List.mem_append.mp z with z | z
      · exact g5 p (List.mem_append_right _ z)
      · rw [List.mem_singleton.mp z]
        exact Nat.ne_of_lt (Nat.lt_of_lt_of_le (Heap.lt_size hf) hsz)
  refine wpAny_bind (wpAny_holding (wpAny_call_entry_kw slot_list_sort ⟨_, hoL, rfl⟩ entry_list_sort ?body (ha2 _)))
  case body =>
    show wpAny (model X.prog X.w) X.A.in1.in1 (Builtin.«list.sort» ⟨[.ref h1.objs.size], kw⟩) _ _ _
    rw [ht]
    refine sort_keyed dm (κ := κ) I1 hoL fa (List.mem_append_right _ (by simp)) rv h64 S hsc hN I.ok.frames hhd hdp c1 c2 c3 hco hgen hbind hc hb keys fun H5 s' sm J hn => ?_
    exact ⟨_, rfl, wpAny_pure ⟨_, rfl, .ref h1.objs.size, _, J.unpinned, rfl, h H5 _ sm hn⟩⟩

def tSortK (K : PySem.W.Frag) (T : Tab) (b : Bool) (ix : List Nat) (ta : TA) (te : TE) : TE := fun σ H Q => ta σ H fun vs H1 => ∃ l xs, ∃ κ : Nat → dm.O.α, vs = [.ref l] ∧ SqL K H1 l xs ∧ xs.length < 64 ∧ TabOk T H1 ∧
  ∀ H2, (∀ Ts, (∀ T' ∈ Ts, T' = T ∨ T'.P ≠ T.P) → Grow Ts H1 H2) →
    (∀ i v, xs[i]? = some v → ∀ H3, Same H2 H3 → te (some v :: ix.map fun i => (σ.getD i none)) H3 (fun k H4 => Same H3 H4 ∧ dm.KR H4 k (κ i))) ∧
    ∀ H5 a, Same H2 H5 → H5 a = none → Q (.ref a) (upd H5 a (.lst (sortedV b κ xs)))
theorem grow_of {T : Tab} {H H' : Hp} (g : Grow [T] H H') (g2 : ∀ T', T'.P ≠ T.P → TabOk T' H → TabOk T' H') : ∀ Ts : List Tab, (∀ T' ∈ Ts, T' = T ∨ T'.P ≠ T.P) → Grow Ts H H' := fun Ts h => ⟨g.keep, fun T' hm ht => by
  rcases h T' hm with rfl | ne
  · exact g.tabs T' (by simp) ht
  · exact g2 T' ne ht⟩
/-- sorted(xs, key=lambda y: ..) -/
theorem pe_sortKey {arg : Expr} {ta : TA} {p lpos kp pos : Pos} (hg : Gl X "sorted") (hm : X.mg "sorted" = none) (hr : Room 1 X.A) (bm : BMain X.mg X.base) (S : CompScope osc scope N [y] ix) (hsc : X.env.scope = osc) (hN : X.N = N)
    (hcode : X.env.code = .ref c) (C : PySem.W.CodeHd X.base c T.P) (hpos : T.pos = lpos) (hq : T.qual = X.env.qual ++ "<lambda>") (hdef : defaultsOf params X.env = ([], []))
    (hco : scope.isCoroutine = false) (hgen : scope.isGenerator = false) (hbind : ∀ (cl : List (Str × Addr)) (pm ctv cdv u : Value), bindArgs (PySem.W.kla_fn "<lambda>" T.qual params body scope cl pm cdv ctv) ⟨[u], []⟩ = pure [(y, u)])
    (ha : PA X [arg] ta) (hb : ∀ f c cl A s H, PE (lamCx X N [y] ix scope T.qual f c cl A s H) body te)
    (he : backTo pos (starEach [arg] X.env) = (false, eval arg X.env) :: backTo pos (starEach [] X.env) := by rfl) (hplain : (backTo pos (starEach [arg] X.env)).any (·.1) = false := by rfl) :
    PE X (.Call (.Name "sorted" p) [arg] [⟨some "key", .Lambda params body scope lpos, kp⟩] pos) (tSortK dm X.K T false ix ta te) := by
  intro pins s σ H Q I h
  refine wpAny_Call_Name_kw (ld_blt I hg hm boot_sorted ?_)
  refine callWith_kw (thn (ha pos pins s σ H _ I h) fun us s1 ⟨vs, H1, I1, r1, q1⟩ => ?_) he hplain rfl rfl
  obtain ⟨l, xs, κ, rfl, hl, h64, hT, q⟩ := q1
  obtain ⟨u, rfl, ru⟩ := vals1 r1
  cases ru
  obtain ⟨cl, hcl, c1, c2, c3⟩ := closureFor_ex (scope := scope) (env := X.env) fun x hx hk => I.ok.has x.1 (by have := S.free x hx hk; rw [← hsc] at this; exact this)
  refine kws_cons (lam_made (T := T) I1 bm hcl hcode C hT hpos hq hdef fun f c' ctv s2 H2 I2 g g2 ff hf hc' k2 => kws_nil ?_)
  obtain ⟨qk, qe⟩ := q H2 (grow_of g g2)
  have hl2 : SqL X.K H2 l xs := g.sq hl
  have hcol := collects_list (A := X.A.in1) I2 hl2 (by rw [sizeLine_eq]; omega)
  exact sorted_call dm (kw := [(Str.ofString "key", .ref f)]) (b := false) I2 hcol ff hf h64 S hsc hN hr.hd hr.depth c1 c2 c3 hco hgen (hbind cl _ ctv) hc' hb (ksk_s1 _ _) (fun _ => ksk_l1 _ _) (fun _ => ksk_t1 _ _) qk qe
/-- sorted(range(n), key=lambda y: .., reverse=True) -/
def tSortR (T : Tab) (ix : List Nat) (ta : TA) (te : TE) : TE := fun σ H Q => ta σ H fun vs H1 => ∃ n : Nat, ∃ κ : Nat → dm.O.α, vs = [.int (n : Int)] ∧ n < 64 ∧ TabOk T H1 ∧
  ∀ H2, (∀ Ts, (∀ T' ∈ Ts, T' = T ∨ T'.P ≠ T.P) → Grow Ts H1 H2) →
    (∀ i, i < n → ∀ H3, Same H2 H3 → te (some (IntV i) :: ix.map fun i => (σ.getD i none)) H3 (fun k H4 => Same H3 H4 ∧ dm.KR H4 k (κ i))) ∧
    ∀ H5 a, Same H2 H5 → H5 a = none → Q (.ref a) (upd H5 a (.lst (sortedV true κ ((List.range n).map IntV))))
theorem pe_sortRng {e : Expr} {ta : TA} {p p2 pos2 lpos kp kp2 cp pos : Pos} {j : Nat} (hg : Gl X "sorted") (hm : X.mg "sorted" = none) (hg2 : Gl X "range") (hm2 : X.mg "range" = none) (hr : Room 1 X.A) (bm : BMain X.mg X.base) (S : CompScope osc scope N [y] ix) (hsc : X.env.scope = osc) (hN : X.N = N)
    (hcode : X.env.code = .ref c) (C : PySem.W.CodeHd X.base c T.P) (hpos : T.pos = lpos) (hq : T.qual = X.env.qual ++ "<lambda>") (hdef : defaultsOf params X.env = ([], []))
    (hco : scope.isCoroutine = false) (hgen : scope.isGenerator = false) (hbind : ∀ (cl : List (Str × Addr)) (pm ctv cdv u : Value), bindArgs (PySem.W.kla_fn "<lambda>" T.qual params body scope cl pm cdv ctv) ⟨[u], []⟩ = pure [(y, u)])
    (ha : PA X [e] ta) (hb : ∀ f c cl A s H, PE (lamCx X N [y] ix scope T.qual f c cl A s H) body te)
    (hs : starEach [e] X.env = [(false, eval e X.env)] := by rfl)
    (he : backTo pos (starEach [.Call (.Name "range" p2) [e] [] pos2] X.env) = (false, eval (.Call (.Name "range" p2) [e] [] pos2) X.env) :: backTo pos (starEach [] X.env) := by rfl) (hplain : (backTo pos (starEach [.Call (.Name "range" p2) [e] [] pos2] X.env)).any (·.1) = false := by rfl) :
    PE X (.Call (.Name "sorted" p) [.Call (.Name "range" p2) [e] [] pos2] [⟨some "key", .Lambda params body scope lpos, kp⟩, ⟨some "reverse", .Constant (.bool true) j cp, kp2⟩] pos) (tSortR dm T ix ta te) := by
  intro pins s σ H Q I h
  refine wpAny_Call_Name_kw (ld_blt I hg hm boot_sorted ?_)
  refine callWith_kw (env := X.env) ?_ he hplain rfl rfl
  rw [he]
  refine Calls.spliced_cons (Call_ (ld_blt I hg2 hm2 boot_range (PyProof.Rows.callWith_type1 (thn (ha pos2 pins s σ H _ I h) fun us s1 ⟨vs, H1, I1, r1, q1⟩ => ?_) hs rfl)))
  obtain ⟨n, κ, rfl, h64, hT, q⟩ := q1
  obtain ⟨u, rfl, ru⟩ := vals1 r1
  obtain ⟨t, rfl⟩ := ru
  refine call_range_1 (Calls.spliced_nil ?_)
  -- the range is pinned
  have hro : (s1.heap.push { cls := .type "range", data := .fields #[.int 0 s1.toks, .int (n : Int) t, .int 1 (s1.toks + 1)] }).get? s1.heap.objs.size = some { cls := .type "range", data := .fields #[.int 0 s1.toks, .int (n : Int) t, .int 1 (s1.toks + 1)] } := Heap.get?_push_size _ rfl
  have f1 := I1.fpOk (Nat.le_refl s1.heap.objs.size) (I1.hok.fresh (Nat.le_refl _))
  have I2 : Inv X (pins ++ [(s1.heap.objs.size, { cls := .type "range", data := .fields #[.int 0 s1.toks, .int (n : Int) t, .int 1 (s1.toks + 1)] })]) σ H1 { s1 with heap := s1.heap.push { cls := .type "range", data := .fields #[.int 0 s1.toks, .int (n : Int) t, .int 1 (s1.toks + 1)] }, toks := s1.toks + 1 + 1 } := by
    refine Inv.pins_of (I1.kept (t' := s1.toks + 1 + 1) fun b o q => Heap.get?_push_of_some _ q) fun p hp => ?_
    rcases List.mem_append.mp hp with z | z
    · have q := I1.pin p (List.mem_append_right _ z)
      exact ⟨Heap.get?_push_of_some _ q.1, q.2⟩
    · rw [List.mem_singleton.mp z]
      exact ⟨hro, f1.1, f1.2.1, f1.2.2.1, fun v z => by cases (show Data.fields _ = Data.cell v from z)⟩
  obtain ⟨cl, hcl, c1, c2, c3⟩ := closureFor_ex (scope := scope) (env := X.env) fun x hx hk => I.ok.has x.1 (by have := S.free x hx hk; rw [← hsc] at this; exact this)
  refine kws_cons (lam_made (T := T) I2 bm hcl hcode C hT hpos hq hdef fun f c' ctv s2 H2 J2 g g2 ff hf hc' k2 => kws_cons (Constant_bool (kws_nil ?_)))
  obtain ⟨qk, qe⟩ := q H2 (grow_of g g2)
  have hr2 := (J2.pin _ (List.mem_append_right _ (List.mem_append_right _ (List.mem_singleton.mpr rfl)))).1
  have hcol := collects_range (X := X) (A := X.A.in1) (n := n) hr.hd hr2 h64
  refine thn (sorted_call dm (kw := [(Str.ofString "key", .ref f), (Str.ofString "reverse", .bool true)]) (b := true) (κ := κ) (Q := Q) J2 hcol ff hf (by rw [List.length_map, List.length_range]; exact h64) S hsc hN hr.hd hr.depth c1 c2 c3 hco hgen (hbind cl _ ctv) hc' hb (ksk_s2 _ _ _) (fun _ => ksk_l2 _ _ _) (fun _ => ksk_t2 _ _ _) (fun i v hv => ?_) qe) fun u s' ⟨v, H', I', r', q'⟩ => ⟨v, H', I'.unpinned, r', q'⟩
  have hi := (List.getElem?_eq_some_iff.mp hv).1
  rw [List.length_map, List.length_range] at hi
  have hv' : v = IntV i := by
    rw [List.getElem?_map, List.getElem?_range hi] at hv
    exact (Option.some.inj hv).symm
  subst hv'
  exact qk i hi
end
end L2

namespace L2
open PySem PySem.Spec PyProof.Rows Fb
/-! ### a def of the text by its name, ready to be called -/
def Fn (P : Program) (w : World) (K : PySem.W.Frag) (mg : Str → Option Value) (base : Heap) (x : Str) (k : Nat) (ps : List Str) (sp : Sp) : Prop :=
  ∃ f fd, FnOk P w K mg base CX0 k f fd ps sp ∧ mg x = some (.ref f) ∧ PySem.W.keepIn K (.ref f) = true ∧ Binds K fd ps []
theorem Fn.mono {P : Program} {w : World} {K : PySem.W.Frag} {mg : Str → Option Value} {base : Heap} {x : Str} {j k : Nat} {ps : List Str} {sp : Sp} (F : Fn P w K mg base x j ps sp) (h : j ≤ k) : Fn P w K mg base x k ps sp := by
  obtain ⟨f, fd, a, b⟩ := F
  exact ⟨f, fd, a.mono h, b⟩
theorem pe_fn {X : Cx} {x : Str} {j k : Nat} {ps : List Str} {sp : Sp} {e : Expr} {es : List Expr} {t : TA} {p pos : Pos} (C : Fn X.prog X.w X.K X.mg X.base x j ps sp) (hr : Room k X.A) (ha : PA X (e :: es) t) (hg : Gl X x := by rfl) (hk : j ≤ k := by decide)
    (hdb : (x == ("__debug__" : Str)) = false := by decide) (he : starEach (e :: es) X.env = (false, eval e X.env) :: starEach es X.env := by rfl) (hpl : (backTo pos (starEach es X.env)).any (·.1) = false := by rfl) : PE X (.Call (.Name x p) (e :: es) [] pos) (tCall sp [] E0 t) := by
  obtain ⟨f, fd, F, hm, hkp, hb⟩ := C
  exact pe_call F (hr.mono hk) hg hm hkp hb .nil pass0 ha hdb he hpl
theorem ixL {X : Cx} (K : PySem.W.Frag) (h : X.K = K := by rfl) : IxR X (rIxL K) := by subst h; exact ix_list
theorem ixT {X : Cx} (K : PySem.W.Frag) (h : X.K = K := by rfl) : IxR X (rIxT K) := by subst h; exact ix_tup
/-! ### the walks of comprehensions by an invariant -/
def Cw (n : Nat) (Pv : Nat → St → Hp → Prop) (i m : Nat) (τ : St) (H : Hp) : Prop := m = n - i ∧ i ≤ n ∧ Pv i τ H
theorem cw_next {n : Nat} {Pv : Nat → St → Hp → Prop} {i : Nat} {τ : St} {H : Hp} (hi : i < n) (h : Pv (i + 1) τ H) : ∃ m', m' < n - i ∧ Cw n Pv (i + 1) m' τ H := ⟨n - (i + 1), by omega, rfl, hi, h⟩
section
variable {K : PySem.W.Frag} {g : TG} {tc : TT} {te : TE} {R : Hp → Prop} {D : Addr} {τ0 : St} {H0 : Hp}
theorem comp_list {a : Addr} {xs : List V} (Pv : Nat → St → Hp → Prop) (h0 : Pv 0 τ0 H0) (hl : ∀ i τ H, Pv i τ H → SqL K H a xs)
    (hs : ∀ i x τ H, xs[i]? = some x → i < xs.length → Pv i τ H → g x τ H fun τ2 H2 => tc τ2 H2 fun b H3 => if b = true then te τ2 H3 fun y H4 => ∃ zs, H4 D = some (.lst zs) ∧ zs.length < sizeLine ∧ ∃ m', m' < xs.length - i ∧ Cw xs.length Pv (i + 1) m' τ2 (upd H4 D (.lst (zs ++ [y]))) else ∃ m', m' < xs.length - i ∧ Cw xs.length Pv (i + 1) m' τ2 H3)
    (hd : ∀ τ H, Pv xs.length τ H → R H) : ∃ W : Nat → Nat → St → Hp → Prop, (∃ m, W 0 m τ0 H0) ∧
      ∀ i m τ H, W i m τ H → ((Itl K a).stop i H ∧ R H) ∨ ((Itl K a).go i H ∧ ∀ x H', (Itl K a).yld i H x H' → g x τ H' fun τ2 H2 => tc τ2 H2 fun b H3 =>
        if b = true then te τ2 H3 fun y H4 => ∃ zs, H4 D = some (.lst zs) ∧ zs.length < sizeLine ∧ ∃ m', m' < m ∧ W (i + 1) m' τ2 (upd H4 D (.lst (zs ++ [y]))) else ∃ m', m' < m ∧ W (i + 1) m' τ2 H3) := by
  refine ⟨Cw xs.length Pv, ⟨xs.length, by simp [Cw, h0]⟩, ?_⟩
  rintro i m τ H ⟨rfl, hi, p⟩
  have q := hl i τ H p
  by_cases hlt : i < xs.length
  · refine .inr ⟨⟨xs, xs[i], q, by simp [hlt]⟩, fun x H' y => ?_⟩
    obtain ⟨e, y⟩ := y
    subst e
    exact hs i x τ _ (y xs q) hlt p
  · have e : i = xs.length := by omega
    subst e
    exact .inl ⟨⟨xs, q, Nat.le_refl _⟩, hd τ H p⟩
theorem comp_range {lo : Int} {n : Nat} (Pv : Nat → St → Hp → Prop) (h0 : Pv 0 τ0 H0)
    (hs : ∀ i τ H, i < n → Pv i τ H → g (.int (lo + i)) τ H fun τ2 H2 => tc τ2 H2 fun b H3 => if b = true then te τ2 H3 fun y H4 => ∃ zs, H4 D = some (.lst zs) ∧ zs.length < sizeLine ∧ ∃ m', m' < n - i ∧ Cw n Pv (i + 1) m' τ2 (upd H4 D (.lst (zs ++ [y]))) else ∃ m', m' < n - i ∧ Cw n Pv (i + 1) m' τ2 H3)
    (hd : ∀ τ H, Pv n τ H → R H) : ∃ W : Nat → Nat → St → Hp → Prop, (∃ m, W 0 m τ0 H0) ∧
      ∀ i m τ H, W i m τ H → ((Itr lo n).stop i H ∧ R H) ∨ ((Itr lo n).go i H ∧ ∀ x H', (Itr lo n).yld i H x H' → g x τ H' fun τ2 H2 => tc τ2 H2 fun b H3 =>
        if b = true then te τ2 H3 fun y H4 => ∃ zs, H4 D = some (.lst zs) ∧ zs.length < sizeLine ∧ ∃ m', m' < m ∧ W (i + 1) m' τ2 (upd H4 D (.lst (zs ++ [y]))) else ∃ m', m' < m ∧ W (i + 1) m' τ2 H3) := by
  refine ⟨Cw n Pv, ⟨n, by simp [Cw, h0]⟩, ?_⟩
  rintro i m τ H ⟨rfl, hi, p⟩
  by_cases hlt : i < n
  · refine .inr ⟨hlt, fun x H' y => ?_⟩
    obtain ⟨e, y⟩ := y
    subst e y
    exact hs i τ _ hlt p
  · have e : i = n := by omega
    subst e
    exact .inl ⟨Nat.le_refl _, hd τ H p⟩
end
/-! ### a cut: what is to hold behind a statement, an expression -/
def tCut (t : TS) : TS := fun D σ H => ∃ M : St → Hp → Prop, (∀ σ' H', M σ' H' → D.nx σ' H') ∧ t { D with nx := M } σ H
theorem ps_cut {X : Cx} {st : Stmt} {t : TS} (h : PS X st t) : PS X st (tCut t) := by
  intro pins s σ H D I ⟨M, hM, q⟩
  refine thn (h pins s σ H _ I q) fun f s' hf => ?_
  cases f with
  | next =>
    obtain ⟨σ', H', I', q'⟩ := hf
    exact ⟨σ', H', I', hM _ _ q'⟩
  | brk => exact hf
  | cont => exact hf
  | ret u => exact hf
def tCutE (t : TE) : TE := fun σ H Q => ∃ M : VK, (∀ v H', M v H' → Q v H') ∧ t σ H M
theorem pe_cut {X : Cx} {e : Expr} {t : TE} (h : PE X e t) : PE X e (tCutE t) := by
  intro pins s σ H Q I ⟨M, hM, q⟩
  refine thn (h pins s σ H _ I q) fun u s' ⟨v, H', I', r, q'⟩ => ⟨v, H', I', r, hM _ _ q'⟩
/-! ### sorted lists with the same members -/
theorem sorted_eq : ∀ {l m : List Int}, l.Perm m → l.Pairwise (fun x y => x ≤ y) → m.Pairwise (fun x y => x ≤ y) → l = m
  | [], m, h, _, _ => (List.Perm.nil_eq h)
  | x :: l, [], h, _, _ => absurd h.length_eq (by simp)
  | x :: l, y :: m, h, h1, h2 => by
    have e : x = y := by
      have hx : x ∈ y :: m := h.mem_iff.mp List.mem_cons_self
      have hy : y ∈ x :: l := h.mem_iff.mpr List.mem_cons_self
      rcases List.mem_cons.mp hx with z | z
      · exact z
      · rcases List.mem_cons.mp hy with z2 | z2
        · exact z2.symm
        · have a := (List.pairwise_cons.mp h1).1 y z2
          have b := (List.pairwise_cons.mp h2).1 x z
          omega
    subst e
    rw [sorted_eq (List.Perm.cons_inv h) (List.pairwise_cons.mp h1).2 (List.pairwise_cons.mp h2).2]
theorem cut_ints (ns : List Int) (lo hi : Option Int) : ∃ ms : List Int, cutV (ns.map V.int) lo hi = ms.map V.int ∧ ms.length ≤ ns.length := by
  refine ⟨(ns.drop (HT.sIx (ns.map V.int).length 0 lo)).take (HT.sIx (ns.map V.int).length (ns.map V.int).length hi - HT.sIx (ns.map V.int).length 0 lo), ?_, ?_⟩
  · unfold cutV
    rw [List.map_take, List.map_drop]
  · rw [List.length_take, List.length_drop]; omega
/-! ### parts of the text by places -/
def cScope : Expr → Scope
  | .ListComp _ _ sc _ => sc
  | _ => { kind := .function, names := [], isGenerator := false, isCoroutine := false }
def arg0 : Expr → Expr
  | .Call _ (e :: _) _ _ => e
  | e => e
def retE : Stmt → Expr
  | .Return (some e) _ => e
  | .Assign _ e _ => e
  | .For _ e _ _ _ => e
  | _ => .Constant .none 0 ⟨0, 0, 0, 0⟩
def bodyAt (st : Stmt) (i : Nat) : Stmt := (defBody st).getD i (.Pass ⟨0, 0, 0, 0⟩)
def loopAt (st : Stmt) (i : Nat) : Stmt := match st with
  | .For _ _ b _ _ => b.getD i (.Pass ⟨0, 0, 0, 0⟩)
  | _ => .Pass ⟨0, 0, 0, 0⟩
end L2

namespace Fb
open PySem L2 PyProof.Rows
theorem btInt : bootBuiltins "int" = some (.type "int") := by decide +kernel
theorem btBool : bootBuiltins "bool" = some (.type "bool") := by decide +kernel
theorem btStr : bootBuiltins "str" = some (.type "str") := by decide +kernel
theorem btTup : bootBuiltins "tuple" = some (.type "tuple") := by decide +kernel
theorem btList : bootBuiltins "list" = some (.type "list") := by decide +kernel
theorem len2 : (2 : Nat) ≤ sizeLine := by rw [sizeLine_eq]; decide
theorem len3 : (3 : Nat) ≤ sizeLine := by rw [sizeLine_eq]; decide
theorem len1 : (1 : Nat) ≤ sizeLine := by rw [sizeLine_eq]; decide
theorem len0 : (0 : Nat) ≤ sizeLine := by rw [sizeLine_eq]; decide
theorem lt_sz {n : Nat} (h : n < 64) : n < sizeLine := by rw [sizeLine_eq]; omega
theorem le_sz {n : Nat} (h : n ≤ 64) : n ≤ sizeLine := by rw [sizeLine_eq]; omega
theorem good_snoc {js : List Job} {e f : Int} (g : Good js) (he : 1 ≤ e) (hf : 0 ≤ f) : Good (js ++ [(e, f)]) := fun j hj => by
  rcases List.mem_append.mp hj with z | z
  · exact g j z
  · rw [List.mem_singleton.mp z]; exact ⟨he, hf⟩
theorem JobsAt.snoc {H : Hp} {a t : Addr} {ts : List Addr} {js : List Job} {e f : Int} (J : JobsAt H a ts js) (ht : H t = some (.tup [.int e, .int f])) : JobsAt (upd H a (.lst (ts.map V.ref ++ [.ref t]))) a (ts ++ [t]) (js ++ [(e, f)]) := by
  refine ⟨by rw [upd_same, List.map_append]; rfl, by simp [J.len], fun i u j h1 h2 => ?_⟩
  have key : H u = some (.tup [.int j.1, .int j.2]) := by
    by_cases hi : i < ts.length
    · rw [List.getElem?_append_left hi] at h1
      rw [List.getElem?_append_left (by rw [← J.len]; exact hi)] at h2
      exact J.tup i u j h1 h2
    · rw [List.getElem?_append_right (by omega)] at h1
      rw [List.getElem?_append_right (by rw [← J.len]; omega), ← J.len] at h2
      cases hz : i - ts.length with
      | zero => rw [hz] at h1 h2; cases h1; cases h2; exact ht
      | succ n => rw [hz] at h1; cases h1
  rw [upd_ne (ne_of key J.lst (by intro z; cases z))]
  exact key
/-- a copy of the list: the same pairs -/
theorem JobsAt.copy {H : Hp} {a b : Addr} {ts : List Addr} {js : List Job} (J : JobsAt H a ts js) (hb : H b = none) : JobsAt (upd H b (.lst (ts.map V.ref))) b ts js :=
  ⟨upd_same, J.len, fun i t j h1 h2 => by have := J.tup i t j h1 h2; rw [upd_ne (ne_of_none this hb)]; exact this⟩
theorem JobsAt.new {H : Hp} {a b : Addr} {o : HO} {ts : List Addr} {js : List Job} (J : JobsAt H a ts js) (hb : H b = none) : JobsAt (upd H b o) a ts js := J.same (.new hb)
section
variable {X : Cx} {o e : Expr} {to te : TE} {apos cpos : Pos}
theorem pe_append (ho : PE X o to) (ha : PE X e te) (hs : starEach [e] X.env = (false, eval e X.env) :: starEach [] X.env := by rfl) (hbase : attributeBase o "append" X.env (eval o X.env) = eval o X.env := by rfl) (hline : (apos.endLine == cpos.line) = true := by rfl)
    (hfew : ((backTo cpos (starEach [e] X.env)).all (fun x => !x.1) && (backToKw cpos (keywordEach [] X.env)).all (fun x => x.1.isSome)
      && decide ([e].length + ([] : List Keyword).length + (if ([] : List Keyword).isEmpty then 0 else 1) < 30)) = true := by rfl) :
    PE X (.Call (.Attribute o "append" apos) [e] [] cpos) (tBM X.K "list" rAppend to (tCons te tNil)) :=
  pe_bm PySem.F.plainAttrs_list PySem.F.slot_list_append PySem.F.type_list_append mt_append ho (pa_cons ha pa_nil hs) hbase hfew hline hs rfl
theorem pe_pop (ho : PE X o to) (hbase : attributeBase o "pop" X.env (eval o X.env) = eval o X.env := by rfl) (hline : (apos.endLine == cpos.line) = true := by rfl) :
    PE X (.Call (.Attribute o "pop" apos) [] [] cpos) (tBM0 X.K "list" rPop to) :=
  pe_bm0 PySem.F.plainAttrs_list PySem.F.slot_list_pop PySem.F.type_list_pop mt_pop ho hbase hline
end
end Fb

namespace L2
open PySem PySem.Spec PyProof.Rows Fb
/-! ### sorted(xs) without a key, of ints or of pairs -/
theorem call_sortedP {X : Cx} (dm : KeyDom) : CallR X (.builtin "sorted") (fun xs H Q => ∃ (a : Addr) (ys : List V) (κ : Nat → dm.O.α), xs = [.ref a] ∧ SqL X.K H a ys ∧ ys.length < 64 ∧ (∀ i v, ys[i]? = some v → dm.KR H v (κ i)) ∧
    ∀ D, H D = none → Q (.ref D) (upd H D (.lst (sortedV (O := dm.O) false κ ys)))) := by
  intro pins s σ H xs us Q I r h
  obtain ⟨a, ys, κ, rfl, hq, h64, hK, q⟩ := h
  obtain ⟨u, rfl, ru⟩ := vals1 r
  cases ru
  obtain ⟨vs, rv, pl, hz⟩ := I.list hq
  have hl : vs.length = ys.length := r_len rv
  refine Calls.call_function_entry kind_sorted plain_sorted entry_sorted (args_sorted1 _) ?_
  unfold Builtin.«sorted»
  refine wpAny_bind (m := checkCount "sorted" 1 1 _) (wpAny_pure ?_)
  refine wpAny_bind (collect_list pl.isList ?_ (by rw [sizeLine_eq]; omega))
  refine wpAny_bind (wpAny_newList ?_ (by rw [sizeLine_eq]; omega))
  have hsz : ((s.heap.push (seqObj "list" #[] 0)).update s.heap.objs.size (Obj.mapSeq (· ++ vs.toArray))).objs.size = s.heap.objs.size + 1 := by
    rw [Heap.size_update, size_push']
  obtain ⟨h1, e1⟩ : ∃ h1, h1 = ((s.heap.push (seqObj "list" #[] 0)).update s.heap.objs.size (Obj.mapSeq (· ++ vs.toArray))) := ⟨_, rfl⟩
  have keep1 : ∀ b o, s.heap.get? b = some o → h1.get? b = some o := fun b o q => by
    have hlt : b < s.heap.objs.size := Heap.lt_size q
    rw [e1, Heap.get?_update_ne _ _ _ _ (Nat.ne_of_lt hlt), Heap.get?_push_ne _ _ _ (Nat.ne_of_lt hlt)]
    exact q
  rw [← e1] at hsz ⊢
  have hle : s.heap.objs.size ≤ h1.objs.size := by omega
  have hoL : (h1.push (seqObj "list" vs.toArray 0)).get? h1.objs.size = some (seqObj "list" vs.toArray 0) := Heap.get?_push_size _ rfl
  refine wpAny_bind (wpAny_holding (wpAny_call_entry slot_list_sort ⟨_, hoL, rfl⟩ entry_list_sort ?body (args_list_sort _)))
  case body =>
    have s1 := Heap.SameBut.update (h1.push (seqObj "list" vs.toArray 0)) h1.objs.size (Obj.mapSeq fun _ => (#[] : Array Value))
    obtain ⟨n1, ho1⟩ : ∃ n1, ((h1.push (seqObj "list" vs.toArray 0)).update h1.objs.size (Obj.mapSeq fun _ => (#[] : Array Value))).get? h1.objs.size = some (seqObj "list" #[] n1) := ⟨_, get?_update_seq hoL fun _ => #[]⟩
    obtain ⟨h3, e3⟩ : ∃ h3, h3 = (((h1.push (seqObj "list" vs.toArray 0)).update h1.objs.size (Obj.mapSeq fun _ => (#[] : Array Value))).push (seqObj "tuple" vs.toArray 0)).push (seqObj "list" #[] 0) := ⟨_, rfl⟩
    have ho3 : h3.get? h1.objs.size = some (seqObj "list" #[] n1) := by rw [e3]; exact Heap.get?_push_of_some _ (Heap.get?_push_of_some _ ho1)
    have keep3 : ∀ b o, s.heap.get? b = some o → h3.get? b = some o := fun b o q => by
      have hlt : b < h1.objs.size := Nat.lt_of_lt_of_le (Heap.lt_size q) hle
      rw [e3]
      refine Heap.get?_push_of_some _ (Heap.get?_push_of_some _ ((s1.2 b (Nat.ne_of_lt hlt)).trans (Heap.get?_push_of_some _ (keep1 b o q))))
    have I3 : Inv X pins σ H { s with heap := h3 } := I.kept (t' := s.toks) keep3
    show wpAny (model X.prog X.w) X.A.in1.in1 (Builtin.«list.sort» ⟨[.ref h1.objs.size], []⟩) _ _ { s with heap := h1.push (seqObj "list" vs.toArray 0) }
    rw [list_sort_plain]
    refine wpAny_bind (listItems_at hoL rfl ?_)
    refine wpAny_bind (listUpdate_at hoL rfl ?_ (by rw [List.size_toArray, sizeLine_eq]; omega) (Nat.zero_le _))
    refine wpAny_bind (seqEpoch_at ho1 rfl ?_)
    refine wpAny_bind (wpAny_newTuple ?_ (by show vs.length ≤ _; rw [sizeLine_eq]; omega))
    refine wpAny_bind (wpAny_newList ?_ (Nat.zero_le _))
    refine wpAny_holding ?_
    show wpAny (model X.prog X.w) X.A.in1.in1 _ _ _ { s with heap := (((h1.push (seqObj "list" vs.toArray 0)).update h1.objs.size (Obj.mapSeq fun _ => (#[] : Array Value))).push (seqObj "tuple" vs.toArray 0)).push (seqObj "list" #[] 0) }
    rw [← e3]
    dsimp only
    have hlen : (sortedOf false κ vs).length = vs.length := sortedOf_len false vs
    have hsz2 : (sortedOf false κ vs).toArray.size ≤ sizeLine + 1 := by rw [List.size_toArray, hlen, sizeLine_eq]; omega
    have s2 := Heap.SameBut.update h3 h1.objs.size (Obj.mapSeq fun _ => (sortedOf false κ vs).toArray)
    obtain ⟨n2, ho4⟩ : ∃ n2, (h3.update h1.objs.size (Obj.mapSeq fun _ => (sortedOf false κ vs).toArray)).get? h1.objs.size = some (seqObj "list" (sortedOf false κ vs).toArray n2) := ⟨_, get?_update_seq ho3 fun _ => (sortedOf false κ vs).toArray⟩
    have fin : EP X pins σ Q (.ref h1.objs.size) { s with heap := h3.update h1.objs.size (Obj.mapSeq fun _ => (sortedOf false κ vs).toArray) } := by
      refine ⟨.ref h1.objs.size, upd H h1.objs.size (.lst (sortedV false κ ys)), I.laid (t' := s.toks) (fun b o z => (s2.2 b (Nat.ne_of_lt (Nat.lt_of_lt_of_le (Heap.lt_size z) hle))).trans (keep3 b o z)) hle ⟨?_, sortedOf false κ vs, n2, sorted_rel (κ := κ) (b := false) rv, ho4⟩, rfl, q _ (I.hok.fresh hle)⟩
      have := r_len (sorted_rel (κ := κ) (b := false) rv)
      have e : (sortedOf false κ vs).length = (sortedV false κ ys).length := this
      rw [← e, hlen, sizeLine_eq]
      omega
    by_cases h2 : vs.toArray.size < 2
    · rw [if_pos h2, if_pos h2]
      refine wpAny_bind (wpAny_pure ?_)
      rw [StateT.run_pure]
      refine wpAny_bind (wpAny_pure ?_)
      dsimp only
      have hn : vs.length < 2 := by simpa using h2
      have hout : (arrOf (SortSt.mk' general' (vs.toArray.zip vs.toArray) #[] 7 none)).map (·.2) = (sortedOf false κ vs).toArray := by
        unfold sortedOf PySem.W.katRev
        simp only [Bool.false_eq_true, if_false]
        have e2 : sortIx κ vs.length = List.range vs.length := by unfold sortIx; rw [if_pos hn]
        rw [e2, range_getD]
        show ((vs.toArray).zip (vs.toArray)).map (·.2) = _
        apply Array.toList_inj.mp
        rw [Array.toList_map, ksk_zip]
        have := List.map_snd_zip (l₁ := vs) (l₂ := vs) (Nat.le_refl _)
        simpa using this
      rw [hout]
      refine wpAny_bind (seqEpoch_at ho3 rfl ?_)
      refine wpAny_bind (listUpdate_at ho3 rfl ?_ (Nat.zero_le _) hsz2)
      simp only [bne_self_eq_false, Bool.false_eq_true, if_false]
      exact wpAny_pure ⟨_, rfl, wpAny_pure ⟨_, rfl, fin⟩⟩
    · have h2' : 2 ≤ vs.length := by
        rw [List.size_toArray] at h2
        omega
      rw [if_neg h2, if_neg h2]
      have hget : ∀ i, i < vs.length → ∃ v, RelV v (vs.getD i Value.none) ∧ dm.KR H v (κ i) := fun i hi => by
        have hi' : i < ys.length := by omega
        obtain ⟨u, hu, ru⟩ := rv.get (i := i) (x := ys[i]) (by simp [hi'])
        refine ⟨ys[i], by rw [List.getD_eq_getElem?_getD, hu]; exact ru, hK i _ (by simp [hi'])⟩
      refine wpAny_bind (wpAny_mono (dm.kind (A := X.A.in1.in1) I3 rv (fun v hv => ?_) h2') (fun k s' hk' => ?_) fun _ _ z => z.elim)
      · obtain ⟨i, hi, rfl⟩ := List.mem_iff_getElem.mp hv
        exact ⟨_, hK i _ (by simp [hi])⟩
      obtain ⟨rfl, rfl⟩ := hk'
      refine wpAny_bind (wpAny_mono (sort_runs (κ := κ) (κk := dm.κk) (ks := vs) (vs := vs) (Q := fun st' s' => s' = { s with heap := h3 } ∧ (arrOf st').map (·.2) = List.toArray ((sortIx κ vs.length).map fun i => vs.getD i Value.none) ∧ failedOf st' = none) rfl h2' (by omega)
        (fun i j C hi hj hC => ?_) (fun st' hm hf => ⟨rfl, hm, hf⟩)) (fun r s' hr => ?_) fun _ _ z => z)
      · obtain ⟨v1, r1, k1⟩ := hget i hi
        obtain ⟨v2, r2, k2⟩ := hget j hj
        exact dm.lt I3 r1 r2 k1 k2 hC
      obtain ⟨⟨⟩, st'⟩ := r
      obtain ⟨rfl, hm, hf⟩ := hr
      dsimp only at hm hf ⊢
      have hout : (arrOf st').map (·.2) = (sortedOf false κ vs).toArray := by
        rw [hm]
        unfold sortedOf PySem.W.katRev
        simp only [Bool.false_eq_true, if_false]
      rw [hout]
      refine wpAny_bind (seqEpoch_at ho3 rfl ?_)
      refine wpAny_bind (listUpdate_at ho3 rfl ?_ (Nat.zero_le _) hsz2)
      rw [hf]
      simp only [bne_self_eq_false, Bool.false_eq_true, if_false]
      exact wpAny_pure ⟨_, rfl, wpAny_pure ⟨_, rfl, fin⟩⟩
end L2

namespace L2
open PySem PySem.Spec PyProof.Rows Fb
/-! ### sum(xs) of ints -/
theorem call_sumI {X : Cx} (hh : X.A.handled = none) : CallR X (.builtin "sum") (fun xs H Q => ∃ (a : Addr) (ns : List Int), xs = [.ref a] ∧ SqL X.K H a (ns.map V.int) ∧ Q (.int ns.sum) H) := by
  intro pins s σ H xs us Q I r h
  obtain ⟨a, ns, rfl, hq, q⟩ := h
  obtain ⟨u, rfl, ru⟩ := vals1 r
  cases ru
  obtain ⟨its, rv, pl, hz⟩ := I.list hq
  have hi := intsAre_of rv
  have hl := pl.isList
  obtain ⟨ys, hx⟩ := hi.allInts.items
  have hn : numsOf its.toArray.toList = ns := by rw [show its.toArray.toList = its from rfl, hi.numsOf]
  rw [hx] at hl hn
  rw [nums_intItems] at hn
  refine sum_intListG hh hl fun h' tk t' hk => ?_
  have e : preSum (numAt ys) ys.size = ns.sum := by rw [preSum_eq, List.take_of_length_le (by simp), hn]
  rw [e]
  exact ⟨.int ns.sum, H, I.kept (t' := tk) hk, ⟨t', rfl⟩, q⟩
end L2

namespace Fb
open PySem L2 PyProof.Rows
/-! ### the places by falling fines -/
def keyF (js : List Job) (i : Nat) : Int := fineOf js i
def fallO (js : List Job) : List Nat := ((sortIx (O := ordInt) (fun i => keyF js (js.length - 1 - i)) js.length).map fun i => js.length - 1 - i).reverse
theorem fall_sorted (js : List Job) : sortedV (O := ordInt) true (keyF js) ((List.range js.length).map IntV) = (fallO js).map IntV := by
  unfold sortedV fallO PySem.W.katRev
  simp only [if_true, List.length_map, List.length_range, List.map_reverse, List.map_map]
  congr 1
  refine List.map_congr_left fun i hi => ?_
  have hi' : i < js.length := List.mem_range.mp ((sortIx_perm (O := ordInt) _ js.length).mem_iff.mp hi)
  show ((List.map IntV (List.range js.length)).reverse).getD i V.non = IntV (js.length - 1 - i)
  rw [List.getD_eq_getElem?_getD, List.getElem?_reverse (by simpa using hi')]
  have h2 : js.length - 1 - i < js.length := by omega
  simp [h2]
theorem rev_perm (n : Nat) : ((List.range n).map fun i => n - 1 - i).Perm (List.range n) := by
  have e : (List.range n).map (fun i => n - 1 - i) = (List.range n).reverse := by
    apply List.ext_getElem
    · simp
    · intro i h1 h2
      simp
  rw [e]
  exact List.reverse_perm _
theorem fallO_perm (js : List Job) : (fallO js).Perm (List.range js.length) :=
  (List.reverse_perm _).trans (((sortIx_perm (O := ordInt) _ _).map _).trans (rev_perm _))
theorem fallO_down (js : List Job) : (fallO js).Pairwise fun p q => fineOf js q ≤ fineOf js p := by
  unfold fallO
  rw [List.pairwise_reverse, List.pairwise_map]
  refine (sortIx_up (O := ordInt) (fun i => keyF js (js.length - 1 - i)) js.length).imp fun {i j} h => ?_
  have h' : decide (keyF js (js.length - 1 - j) < keyF js (js.length - 1 - i)) = false := h
  have := of_decide_eq_false h'
  unfold keyF at this
  omega
/-! ### one by one: kept or left -/
def step (js : List Job) (x : List Nat × List (Nat × Int)) (p : Nat) : List Nat × List (Nat × Int) := match tickOf js (x.1 ++ [p]) with
  | none => (x.1 ++ [p], x.2)
  | some t => (x.1, x.2 ++ [(p, t)])
def settle (js : List Job) : List Nat × List (Nat × Int) := (fallO js).foldl (step js) ([], [])
theorem step_none {js : List Job} {x : List Nat × List (Nat × Int)} {p : Nat} (h : tickOf js (x.1 ++ [p]) = none) : step js x p = (x.1 ++ [p], x.2) := by unfold step; rw [h]
theorem step_some {js : List Job} {x : List Nat × List (Nat × Int)} {p : Nat} {t : Int} (h : tickOf js (x.1 ++ [p]) = some t) : step js x p = (x.1, x.2 ++ [(p, t)]) := by unfold step; rw [h]
abbrev jobOf (js : List Job) (p : Nat) : Job := (endOf js p, fineOf js p)
structure Set1 (js : List Job) (d k : List Nat) (l : List (Nat × Int)) : Prop where
  perm : (k ++ l.map (·.1)).Perm d
  feas : Feas (jobsOf js k)
  left : ∀ x ∈ l, LeftOk (jobsOf js k) (jobOf js x.1) x.2
theorem jobsOf_snoc (js : List Job) (k : List Nat) (p : Nat) : jobsOf js (k ++ [p]) = jobsOf js k ++ [jobOf js p] := by unfold jobsOf; rw [List.map_append]; rfl
theorem Set1.step {js : List Job} {d k : List Nat} {l : List (Nat × Int)} (g : Good js) (S : Set1 js d k l) {p : Nat} (hp : p < js.length) (hd : ∀ q ∈ d, q < js.length) (hf : ∀ q ∈ d, fineOf js p ≤ fineOf js q) :
    Set1 js (d ++ [p]) (step js (k, l) p).1 (step js (k, l) p).2 := by
  have hk : ∀ q ∈ k, q ∈ d := fun q hq => S.perm.mem_iff.mp (List.mem_append_left _ hq)
  cases h : tickOf js (k ++ [p]) with
  | none =>
    rw [step_none (x := (k, l)) h]
    have f := tick_none h
    rw [jobsOf_snoc] at f
    refine ⟨?_, by show Feas (jobsOf js (k ++ [p])); rw [jobsOf_snoc]; exact f, fun x hx => by show LeftOk (jobsOf js (k ++ [p])) _ _; rw [jobsOf_snoc]; exact (S.left x hx).keep f⟩
    show (k ++ [p] ++ l.map (·.1)).Perm (d ++ [p])
    refine List.Perm.trans ?_ (S.perm.append_right [p])
    rw [List.append_assoc, List.append_assoc]
    exact List.Perm.append_left k List.perm_append_comm
  | some t =>
    rw [step_some (x := (k, l)) h]
    obtain ⟨t1, q, hq, hqt⟩ := tick_some h
    have hq' : q < js.length := by
      rcases List.mem_append.mp hq with z | z
      · exact hd q (hk q z)
      · rw [List.mem_singleton.mp z]; exact hp
    have ht0 : 0 ≤ t := by have := (good_get g hq').1; omega
    refine ⟨?_, S.feas, fun x hx => ?_⟩
    · show (k ++ (l ++ [(p, t)]).map (·.1)).Perm (d ++ [p])
      rw [List.map_append, ← List.append_assoc]
      exact S.perm.append_right [p]
    · rcases List.mem_append.mp hx with z | z
      · exact S.left x z
      · rw [List.mem_singleton.mp z]
        rw [jobsOf_snoc] at t1
        refine LeftOk.new S.feas ht0 t1 fun j hj => ?_
        obtain ⟨r, hr, rfl⟩ := List.mem_map.mp hj
        exact hf r (hk r hr)
theorem Set1.fold {js : List Job} (g : Good js) : ∀ (r d : List Nat) (x : List Nat × List (Nat × Int)), Set1 js d x.1 x.2 → (∀ q ∈ d ++ r, q < js.length) → (d ++ r).Pairwise (fun p q => fineOf js q ≤ fineOf js p) → Set1 js (d ++ r) (r.foldl (Fb.step js) x).1 (r.foldl (Fb.step js) x).2
  | [], d, x, S, _, _ => by rw [List.append_nil]; exact S
  | p :: r, d, x, S, hl, hp => by
    have e : d ++ p :: r = (d ++ [p]) ++ r := by simp
    rw [e] at hl hp ⊢
    rw [List.foldl_cons]
    refine Set1.fold g r (d ++ [p]) _ (S.step g (hl p (by simp)) (fun q hq => hl q (by simp [hq])) fun q hq => ?_) hl hp
    have := (List.pairwise_append.mp (List.pairwise_append.mp hp).1).2.2 q hq p (by simp)
    exact this
theorem settle_ok {js : List Job} (g : Good js) : Set1 js (fallO js) (settle js).1 (settle js).2 := by
  have := Set1.fold g (fallO js) [] ([], []) ⟨List.Perm.refl _, fun t => Nat.zero_le _, fun x hx => absurd hx List.not_mem_nil⟩ (fun q hq => List.mem_range.mp ((fallO_perm js).mem_iff.mp (by simpa using hq))) (by simpa using fallO_down js)
  rw [List.nil_append] at this
  exact this
theorem jobs_all (js : List Job) : jobsOf js (List.range js.length) = js := by
  unfold jobsOf
  apply List.ext_getElem
  · simp
  · intro i h1 h2
    have hi : i < js.length := h2
    simp [endOf, fineOf, hi]
/-- what settles is a certificate -/
theorem settle_cert {js : List Job} (g : Good js) {qs : List Nat} {rs : List (Nat × Int)} (hq : qs.Perm (settle js).1) (hr : rs.Perm (settle js).2) :
    Cert (jobsOf js qs) (jobsOf js (rs.map (·.1))) ∧ (jobsOf js qs ++ jobsOf js (rs.map (·.1))).Perm js ∧ (∀ x ∈ rs, LeftOk (jobsOf js qs) (jobOf js x.1) x.2) ∧ (qs ++ rs.map (·.1)).Perm (List.range js.length) := by
  have S := settle_ok g
  have pk : (jobsOf js qs).Perm (jobsOf js (settle js).1) := hq.map _
  have hfe : Feas (jobsOf js qs) := feas_perm pk.symm S.feas
  have hle : ∀ x ∈ rs, LeftOk (jobsOf js qs) (jobOf js x.1) x.2 := fun x hx => by
    obtain ⟨h1, h0, h2, h3⟩ := S.left x (hr.mem_iff.mp hx)
    exact ⟨h1, h0, by rw [pk.countP_eq]; exact h2, fun j hj => h3 j (pk.mem_iff.mp hj)⟩
  have hp : (qs ++ rs.map (·.1)).Perm (List.range js.length) := ((hq.append (hr.map _)).trans S.perm).trans (fallO_perm js)
  refine ⟨LeftOk.cert hfe fun r hr' => ?_, ?_, hle, hp⟩
  · obtain ⟨p, hp, rfl⟩ := List.mem_map.mp hr'
    obtain ⟨x, hx, rfl⟩ := List.mem_map.mp hp
    exact ⟨x.2, hle x hx⟩
  · have := hp.map (jobOf js)
    rw [List.map_append] at this
    have e : (List.range js.length).map (jobOf js) = js := jobs_all js
    rw [e] at this
    exact this
theorem places_nodup {n : Nat} {l : List Nat} (h : l.Perm (List.range n)) : l.Nodup := h.nodup_iff.mpr List.nodup_range
/-! ### sorted lists of pairs -/
theorem sorted_jobs {H : Hp} {a : Addr} {ts : List Addr} {js : List Job} (J : JobsAt H a ts js) : ∃ (ts' : List Addr) (js' : List Job), sortedV (O := ordPair) false (fun i => js.getD i (0, 0)) (ts.map V.ref) = ts'.map V.ref ∧ js'.Perm js ∧ js'.Pairwise (fun x y => ltPair y x = false) ∧
    ∀ D, H D = none → JobsAt (upd H D (.lst (ts'.map V.ref))) D ts' js' := by
  obtain ⟨ix, eix⟩ : ∃ ix, ix = sortIx (O := ordPair) (fun i => js.getD i (0, 0)) js.length := ⟨_, rfl⟩
  have hp : ix.Perm (List.range js.length) := by rw [eix]; exact sortIx_perm (O := ordPair) _ _
  have hu : ix.Pairwise fun i j => ltPair (js.getD j (0, 0)) (js.getD i (0, 0)) = false := by rw [eix]; exact sortIx_up (O := ordPair) (fun i => js.getD i (0, 0)) js.length
  refine ⟨ix.map fun i => ts.getD i 0, ix.map fun i => js.getD i (0, 0), ?_, ?_, ?_, fun D hD => ⟨upd_same, by simp, fun i t j h1 h2 => ?_⟩⟩
  · unfold sortedV PySem.W.katRev
    simp only [Bool.false_eq_true, if_false, List.length_map, List.map_map, J.len]
    rw [← eix]
    refine List.map_congr_left fun i hi => ?_
    have hi' : i < ts.length := by rw [J.len]; exact List.mem_range.mp (hp.mem_iff.mp hi)
    show (ts.map V.ref).getD i V.non = V.ref (ts.getD i 0)
    simp [hi']
  · have h1 := hp.map fun i => js.getD i (0, 0)
    have e : (List.range js.length).map (fun i => js.getD i (0, 0)) = js := by
      apply List.ext_getElem
      · simp
      · intro i h1 h2
        have hi : i < js.length := h2
        simp [hi]
    rw [e] at h1
    exact h1
  · rw [List.pairwise_map]; exact hu
  · rw [List.getElem?_map] at h1 h2
    cases e : ix[i]? with
    | none => rw [e] at h1; cases h1
    | some m =>
      rw [e] at h1 h2
      have hm : m < js.length := List.mem_range.mp (hp.mem_iff.mp (List.mem_of_getElem? e))
      have hm' : m < ts.length := by rw [J.len]; exact hm
      have e1 : ts[m]? = some t := by
        have := Option.some.inj h1
        rw [← this]
        simp [hm']
      have e2 : js[m]? = some j := by
        have := Option.some.inj h2
        rw [← this]
        simp [hm]
      have := J.tup m t j e1 e2
      rw [upd_ne (ne_of_none this hD)]
      exact this
theorem call_sortedJ {X : Cx} : CallR X (.builtin "sorted") (fun xs H Q => ∃ (a : Addr) (ts : List Addr) (js : List Job), xs = [.ref a] ∧ JobsAt H a ts js ∧ js.length < 64 ∧
    ∀ D ts' js', H D = none → js'.Perm js → js'.Pairwise (fun x y => ltPair y x = false) → JobsAt (upd H D (.lst (ts'.map V.ref))) D ts' js' → Q (.ref D) (upd H D (.lst (ts'.map V.ref)))) := by
  intro pins s σ H xs us Q I r h
  obtain ⟨a, ts, js, rfl, J, h64, q⟩ := h
  obtain ⟨ts', js', e, hp, hu, hJ⟩ := sorted_jobs J
  refine call_sortedP domPair pins s σ H _ us Q I r ⟨a, ts.map V.ref, fun i => js.getD i (0, 0), rfl, SqL.of J.lst, by rw [List.length_map, J.len]; exact h64, fun i v hv => ?_, fun D hD => ?_⟩
  · obtain ⟨t, ht, rfl⟩ := map_ref_get hv
    have hlt : i < js.length := by rw [← J.len]; exact (List.getElem?_eq_some_iff.mp ht).1
    refine ⟨t, rfl, ?_⟩
    have e : js.getD i (0, 0) = js[i] := by simp [hlt]
    show H t = some (.tup [.int (js.getD i (0, 0)).1, .int (js.getD i (0, 0)).2])
    rw [e]
    exact J.tup i t js[i] ht (by simp [hlt])
  · have := q D ts' js' hD hp hu (hJ D hD)
    rw [← e] at this
    exact this
end Fb
namespace Fb
open PySem L2 PyProof.Rows
def pairZ (x : Nat × Int) : Job := ((x.1 : Int), x.2)
theorem perm_pairs {ms : List Job} {l : List (Nat × Int)} (h : ms.Perm (l.map pairZ)) : ∃ rs : List (Nat × Int), ms = rs.map pairZ ∧ rs.Perm l := by
  refine ⟨ms.map fun j => (j.1.toNat, j.2), ?_, ?_⟩
  · rw [List.map_map]
    have : ms.map (pairZ ∘ fun j => (j.1.toNat, j.2)) = ms.map id := List.map_congr_left fun m hm => by
      obtain ⟨x, _, e⟩ := List.mem_map.mp (h.mem_iff.mp hm)
      subst e
      show (((((x.1 : Nat) : Int).toNat : Nat) : Int), x.2) = ((x.1 : Int), x.2)
      simp
    rw [this, List.map_id]
  · have h1 := h.map fun j : Job => (j.1.toNat, j.2)
    rw [List.map_map] at h1
    have : l.map ((fun j : Job => (j.1.toNat, j.2)) ∘ pairZ) = l.map id := List.map_congr_left fun m _ => by
      show ((((m.1 : Nat) : Int).toNat : Nat), m.2) = m
      simp
    rw [this, List.map_id] at h1
    exact h1
theorem settle_pre {js : List Job} (g : Good js) (i : Nat) : Set1 js ((fallO js).take i) (((fallO js).take i).foldl (step js) ([], [])).1 (((fallO js).take i).foldl (step js) ([], [])).2 := by
  have hs : ((fallO js).take i).Sublist (fallO js) := List.take_sublist _ _
  have := Set1.fold g ((fallO js).take i) [] ([], []) ⟨List.Perm.refl _, fun t => Nat.zero_le _, fun x hx => absurd hx List.not_mem_nil⟩ (fun q hq => List.mem_range.mp ((fallO_perm js).mem_iff.mp (hs.mem (by simpa using hq)))) (by simpa using (fallO_down js).sublist hs)
  rw [List.nil_append] at this
  exact this
theorem fold_take {js : List Job} {i p : Nat} (h : (fallO js)[i]? = some p) : ((fallO js).take (i + 1)).foldl (step js) ([], []) = step js (((fallO js).take i).foldl (step js) ([], [])) p := by
  have e : (fallO js).take (i + 1) = (fallO js).take i ++ [p] := by rw [List.take_add_one, h]; rfl
  rw [e, List.foldl_append]
  rfl
theorem JobsAt.other {H : Hp} {a b : Addr} {xs ys : List V} {ts : List Addr} {js : List Job} (J : JobsAt H a ts js) (hb : H b = some (.lst xs)) (hne : a ≠ b) : JobsAt (upd H b (.lst ys)) a ts js :=
  ⟨by rw [upd_ne hne]; exact J.lst, J.len, fun i t j h1 h2 => by have := J.tup i t j h1 h2; rw [upd_ne (ne_of this hb (by intro z; cases z))]; exact this⟩
end Fb

namespace Fb
open PySem L2 PyProof.Rows
theorem noIf {σ : L2.St} {H : Hp} {A B : Hp → Prop} (h : A H) : tNoIf σ H (fun b H3 => if b = true then A H3 else B H3) := h
/-! ### k not in places -/
def rNotIn (K : PySem.W.Frag) : R2 := fun x y H Q => ∃ (p : Addr) (qs : List Nat) (k : Nat), x = IntV k ∧ y = .ref p ∧ SqL K H p (qs.map IntV) ∧ Q (.bl (!decide (k ∈ qs))) H
theorem inV_nat (k : Nat) (qs : List Nat) : inV (IntV k) (qs.map IntV) = decide (k ∈ qs) := by
  unfold inV
  rw [List.any_map]
  induction qs with
  | nil => rfl
  | cons q r ih =>
    rw [List.any_cons, ih]
    have e : ((fun y => eqV y (IntV k)) ∘ IntV) q = decide (k = q) := by
      show ((q : Int) == (k : Int)) = decide (k = q)
      by_cases h : k = q
      · subst h; simp
      · have h' : ¬ ((q : Int) = (k : Int)) := fun z => h (by omega)
        rw [decide_eq_false h]
        exact beq_eq_false_iff_ne.mpr h'
    rw [e]
    by_cases h : k = q
    · subst h; simp
    · simp [h]
theorem flat_nat (qs : List Nat) : (qs.map IntV).all flatV = true := by
  rw [List.all_map]
  exact List.all_eq_true.mpr fun _ _ => rfl
theorem opNotIn {X : Cx} (K : PySem.W.Frag) (h : X.K = K := by rfl) : OpR X (compareOp .NotIn) (rNotIn K) := by
  subst h
  intro pins s σ H x y v u Q I rx ry h
  obtain ⟨p, qs, k, rfl, rfl, hq, q⟩ := h
  refine op_notIn_seq pins s σ H _ _ v u Q I rx ry ⟨p, _, rfl, .inl hq, rfl, flat_nat qs, ?_⟩
  rw [inV_nat]
  exact q
/-- the ends alone say whether it can be done -/
theorem feas_ends {js : List Job} {qs : List Nat} {ms : List Int} (h : ms.Perm (qs.map (endOf js))) : Feas (ms.map fun e => ((e, 0) : Job)) ↔ Feas (jobsOf js qs) := by
  have key : ∀ t : Nat, (ms.map fun e => ((e, 0) : Job)).countP (fun j => decide (j.1 ≤ (t : Int))) = (jobsOf js qs).countP (fun j => decide (j.1 ≤ (t : Int))) := fun t => by
    have h1 := h.countP_eq fun e => decide (e ≤ (t : Int))
    unfold jobsOf
    rw [List.countP_map, List.countP_map]
    rw [List.countP_map] at h1
    exact h1
  constructor
  · intro f t
    rw [← key t]; exact f t
  · intro f t
    rw [key t]; exact f t
theorem rest_eq {n : Nat} {qs ps : List Nat} (hp : (qs ++ ps).Perm (List.range n)) (hu : ps.Pairwise (fun x y => x ≤ y)) : ps = (List.range n).filter fun k => !decide (k ∈ qs) := by
  have nd := places_nodup hp
  rw [List.nodup_append] at nd
  obtain ⟨n1, n2, n3⟩ := nd
  have hperm : ps.Perm ((List.range n).filter fun k => !decide (k ∈ qs)) := by
    refine (List.perm_ext_iff_of_nodup n2 (List.nodup_range.sublist List.filter_sublist)).mpr fun x => ?_
    rw [List.mem_filter]
    constructor
    · intro hx
      refine ⟨hp.mem_iff.mp (List.mem_append_right _ hx), ?_⟩
      simp only [Bool.not_eq_true', decide_eq_false_iff_not]
      exact fun hq => absurd rfl (n3 x hq x hx)
    · intro ⟨h1, h2⟩
      rcases List.mem_append.mp (hp.mem_iff.mpr h1) with z | z
      · simp only [Bool.not_eq_true', decide_eq_false_iff_not] at h2
        exact absurd z h2
      · exact z
  have h1 : asZ ps = asZ ((List.range n).filter fun k => !decide (k ∈ qs)) := sorted_eq (hperm.map _) (List.pairwise_map.mpr (hu.imp fun h => by omega)) (List.pairwise_map.mpr ((List.pairwise_le_range.sublist List.filter_sublist).imp fun h => by omega))
  have h2 := congrArg (List.map Int.toNat) h1
  unfold asZ at h2
  rw [List.map_map, List.map_map] at h2
  have e : ∀ l : List Nat, l.map (Int.toNat ∘ fun n : Nat => (n : Int)) = l := fun l => by
    have : l.map (Int.toNat ∘ fun n : Nat => (n : Int)) = l.map id := List.map_congr_left fun m _ => by
      show ((m : Nat) : Int).toNat = m
      omega
    rw [this, List.map_id]
  rw [e, e] at h2
  exact h2
theorem pair_get {H : Hp} {a : Addr} {ts : List Addr} {rs : List (Nat × Int)} (J : JobsAt H a ts (rs.map pairZ)) {i : Nat} (hi : i < rs.length) : ∃ t, atI (ts.map V.ref) (i : Int) = some (.ref t) ∧ H t = some (.tup [IntV rs[i].1, .int rs[i].2]) := by
  have hi' : i < ts.length := by rw [J.len, List.length_map]; exact hi
  refine ⟨ts[i], atI_nat (by simp [hi']), ?_⟩
  exact J.tup i ts[i] (pairZ rs[i]) (by simp [hi']) (by simp [hi])
/-- the fines of those that are left -/
def leastF (js : List Job) : Int := sumF (jobsOf js ((settle js).2.map (·.1)))
theorem least_of {js acc rej : List Job} (g : Good js) (c : Cert acc rej) (hp : (acc ++ rej).Perm js) : sumF rej = leastF js := by
  obtain ⟨c2, p2, _, _⟩ := settle_cert g (List.Perm.refl _) (List.Perm.refl _)
  have ga : Good (acc ++ rej) := fun j hj => g j (hp.mem_iff.mp hj)
  exact (c.same c2 ga (hp.trans p2.symm)).2
theorem least_perm {js js' : List Job} (g : Good js) (hp : js'.Perm js) : leastF js' = leastF js := by
  have g' : Good js' := fun j hj => g j (hp.mem_iff.mp hj)
  obtain ⟨c2, p2, _, _⟩ := settle_cert g' (List.Perm.refl _) (List.Perm.refl _)
  exact least_of g c2 (p2.trans hp)
theorem sumF_nonneg {js : List Job} (g : ∀ j ∈ js, 0 ≤ j.2) : 0 ≤ sumF js := by
  unfold sumF
  induction js with
  | nil => exact Int.le_refl _
  | cons j r ih =>
    rw [List.map_cons, List.sum_cons]
    have h1 := g j (by simp)
    have h2 := ih fun x hx => g x (by simp [hx])
    omega
/-- a job by its fine turned round -/
def neg (j : Job) : Job := (0 - j.2, j.1)
def back (m : Job) : Job := (m.2, 0 - m.1)
theorem back_neg (j : Job) : back (neg j) = j := by
  unfold back neg
  ext
  · rfl
  · show 0 - (0 - j.2) = j.2
    omega
/-! ### a list of pairs, each with its address -/
def Pairs (H : Hp) (ps : List (Addr × Job)) : Prop := ∀ x ∈ ps, H x.1 = some (.tup [.int x.2.1, .int x.2.2])
theorem JobsAt.pairs {H : Hp} {a : Addr} {ts : List Addr} {js : List Job} (J : JobsAt H a ts js) : ∃ ps : List (Addr × Job), ts = ps.map (·.1) ∧ js = ps.map (·.2) ∧ Pairs H ps := by
  refine ⟨ts.zip js, ?_, ?_, fun x hx => ?_⟩
  · exact (List.map_fst_zip (Nat.le_of_eq J.len)).symm
  · exact (List.map_snd_zip (Nat.le_of_eq J.len.symm)).symm
  · obtain ⟨i, hi, rfl⟩ := List.mem_iff_getElem.mp hx
    rw [List.length_zip] at hi
    have h1 : i < ts.length := by omega
    have h2 : i < js.length := by omega
    rw [List.getElem_zip]
    exact J.tup i _ _ (by simp [h1]) (by simp [h2])
theorem Pairs.jobs {H : Hp} {b : Addr} {ps : List (Addr × Job)} (h : Pairs H ps) (hb : H b = some (.lst ((ps.map (·.1)).map V.ref))) : JobsAt H b (ps.map (·.1)) (ps.map (·.2)) := by
  refine ⟨hb, by simp, fun i t j h1 h2 => ?_⟩
  rw [List.getElem?_map] at h1 h2
  cases e : ps[i]? with
  | none => rw [e] at h1; cases h1
  | some x =>
    rw [e] at h1 h2
    cases h1
    cases h2
    exact h x (List.mem_of_getElem? e)
theorem Pairs.grow {Ts : List Tab} {H H' : Hp} {ps : List (Addr × Job)} (h : Pairs H ps) (g : Grow Ts H H') : Pairs H' ps := fun x hx => g.tup (h x hx)
theorem Pairs.same {H H' : Hp} {ps : List (Addr × Job)} (h : Pairs H ps) (g : Same H H') : Pairs H' ps := fun x hx => g _ _ (h x hx)
theorem Pairs.perm {H : Hp} {ps qs : List (Addr × Job)} (h : Pairs H ps) (hp : ∀ x ∈ qs, x ∈ ps) : Pairs H qs := fun x hx => h x (hp x hx)
/-- a list with the same jobs, in some order -/
def SameJobs (H : Hp) (b : Addr) (js : List Job) : Prop := ∃ (us : List Addr) (js' : List Job), JobsAt H b us js' ∧ js'.Perm js
theorem SameJobs.same {H H' : Hp} {b : Addr} {js : List Job} (h : SameJobs H b js) (g : Same H H') : SameJobs H' b js := by
  obtain ⟨us, js', J, p⟩ := h
  exact ⟨us, js', J.same g, p⟩
theorem SameJobs.grow {Ts : List Tab} {H H' : Hp} {b : Addr} {js : List Job} (h : SameJobs H b js) (g : Grow Ts H H') : SameJobs H' b js := by
  obtain ⟨us, js', J, p⟩ := h
  exact ⟨us, js', J.grow g, p⟩
theorem Pairs.sameJobs {H : Hp} {b : Addr} {ps qs : List (Addr × Job)} (h : Pairs H ps) (hp : qs.Perm ps) (hb : H b = some (.lst ((qs.map (·.1)).map V.ref))) : SameJobs H b (ps.map (·.2)) :=
  ⟨_, _, (h.perm fun x hx => hp.mem_iff.mp hx).jobs hb, hp.map _⟩
theorem rot_perm {α : Type} (xs : List α) (k : Nat) : (xs.drop k ++ xs.take k).Perm xs := by
  have := List.perm_append_comm (l₁ := xs.drop k) (l₂ := xs.take k)
  rw [List.take_append_drop] at this
  exact this
theorem cut_from (xs : List V) (k : Nat) (h : k ≤ xs.length) : cutV xs (some (k : Int)) none = xs.drop k := by
  have e : HT.sIx xs.length 0 (some (k : Int)) = k := by
    have := HT.clip_eq (k : Int) xs.length 0
    rw [if_neg (by omega)] at this
    omega
  unfold cutV
  rw [e]
  show (xs.drop k).take (xs.length - k) = xs.drop k
  rw [List.take_of_length_le (by rw [List.length_drop]; exact Nat.le_refl _)]
theorem cut_to (xs : List V) (k : Nat) (h : k ≤ xs.length) : cutV xs none (some (k : Int)) = xs.take k := by
  have e : HT.sIx xs.length xs.length (some (k : Int)) = k := by
    have := HT.clip_eq (k : Int) xs.length xs.length
    rw [if_neg (by omega)] at this
    omega
  unfold cutV
  rw [e]
  show (xs.drop 0).take (k - 0) = xs.take k
  rw [List.drop_zero, Nat.sub_zero]
end Fb

namespace L2
open PySem PySem.Spec PyProof.Rows

/-! ### lists of pairs as tables -/
section
variable {κ : Type} [DecidableEq κ]
def valV (kvs : List (κ × V)) (k : κ) : Option V := (kvs.find? fun kv => decide (kv.1 = k)).map (·.2)
/-- in its place, or at the end -/
def putK (kvs : List (κ × V)) (k : κ) (v : V) : List (κ × V) :=
  if (kvs.any fun kv => decide (kv.1 = k)) = true then kvs.map (fun kv => if kv.1 = k then (kv.1, v) else kv) else kvs ++ [(k, v)]
def dropK (kvs : List (κ × V)) (k : κ) : List (κ × V) := kvs.filter fun kv => decide (kv.1 ≠ k)

theorem valV_nil {k : κ} : valV ([] : List (κ × V)) k = none := rfl
theorem valV_pos {p : κ × V} {r : List (κ × V)} {k : κ} (e : p.1 = k) : valV (p :: r) k = some p.2 := by simp [valV, List.find?_cons, e]
theorem valV_neg {p : κ × V} {r : List (κ × V)} {k : κ} (e : ¬ p.1 = k) : valV (p :: r) k = valV r k := by simp [valV, List.find?_cons, e]
theorem valV_any (k : κ) : ∀ kvs : List (κ × V), (kvs.any fun kv => decide (kv.1 = k)) = (valV kvs k).isSome
  | [] => rfl
  | p :: r => by
    rw [List.any_cons]
    by_cases e : p.1 = k
    · simp only [valV_pos e, decide_eq_true e, Bool.true_or, Option.isSome_some]
    · rw [valV_neg e, decide_eq_false e, Bool.false_or]; exact valV_any k r
theorem valV_map (k j : κ) (y : V) : ∀ kvs : List (κ × V), valV (kvs.map fun kv => if kv.1 = k then (kv.1, y) else kv) j = (valV kvs j).map fun x => if j = k then y else x
  | [] => rfl
  | p :: r => by
    have ih := valV_map k j y r
    rw [List.map_cons]
    by_cases h : p.1 = k
    · rw [if_pos h]
      by_cases e : p.1 = j
      · rw [valV_pos (p := (p.1, y)) e, valV_pos e, Option.map_some, if_pos (e.symm.trans h)]
      · rw [valV_neg (p := (p.1, y)) e, valV_neg e, ih]
    · rw [if_neg h]
      by_cases e : p.1 = j
      · rw [valV_pos (p := p) e, valV_pos e, Option.map_some, if_neg (fun z => h (e.trans z))]
      · rw [valV_neg (p := p) e, valV_neg e, ih]
theorem valV_snoc (k j : κ) (y : V) : ∀ kvs : List (κ × V), valV kvs k = none → valV (kvs ++ [(k, y)]) j = if j = k then some y else valV kvs j
  | [], _ => by
    by_cases e : k = j
    · rw [if_pos e.symm]; exact valV_pos (p := (k, y)) e
    · rw [if_neg (fun z => e z.symm)]; exact valV_neg (p := (k, y)) e
  | p :: r, hn => by
    rw [List.cons_append]
    have hk : ¬ p.1 = k := fun z => by rw [valV_pos z] at hn; cases hn
    rw [valV_neg hk] at hn
    have ih := valV_snoc k j y r hn
    by_cases e : p.1 = j
    · rw [valV_pos e, valV_pos e, if_neg (fun z => hk (e.trans z))]
    · rw [valV_neg e, valV_neg e, ih]
theorem valV_put (kvs : List (κ × V)) (k j : κ) (y : V) : valV (putK kvs k y) j = if j = k then some y else valV kvs j := by
  unfold putK
  by_cases a : (kvs.any fun kv => decide (kv.1 = k)) = true
  · rw [if_pos a, valV_map]
    rw [valV_any] at a
    by_cases e : j = k
    · obtain ⟨x, hx⟩ := Option.isSome_iff_exists.mp a
      rw [if_pos e, e, hx, Option.map_some, if_pos rfl]
    · rw [if_neg e]
      cases valV kvs j with
      | none => rfl
      | some x => rw [Option.map_some, if_neg e]
  · rw [if_neg a]
    refine valV_snoc k j y kvs ?_
    rw [valV_any] at a
    cases q : valV kvs k with
    | none => rfl
    | some x => rw [q] at a; exact (a rfl).elim
theorem length_putK (kvs : List (κ × V)) (k : κ) (v : V) : (putK kvs k v).length ≤ kvs.length + 1 := by
  unfold putK
  split
  · rw [List.length_map]; omega
  · rw [List.length_append, List.length_cons, List.length_nil]; omega
theorem putK_new {kvs : List (κ × V)} {k : κ} (v : V) (h : valV kvs k = none) : putK kvs k v = kvs ++ [(k, v)] := by
  unfold putK
  rw [valV_any, h]
  exact if_neg (by decide)

theorem RelO.isSome_eq {o : Option V} {u : Option Value} (r : RelO o u) : o.isSome = u.isSome := by
  cases o with
  | none => cases u with
    | none => rfl
    | some _ => exact (show False from r).elim
  | some _ => cases u with
    | none => exact (show False from r).elim
    | some _ => rfl
theorem RelO.getD {o : Option V} {u : Option Value} {d : V} {d' : Value} (r : RelO o u) (rd : RelV d d') : RelV (o.getD d) (u.getD d') := by
  cases o with
  | none => cases u with
    | none => exact rd
    | some _ => exact (show False from r).elim
  | some _ => cases u with
    | none => exact (show False from r).elim
    | some _ => exact r

/-- raw tables of the same keys -/
theorem KV.val {kvs : List (κ × V)} {vs : List (κ × Value)} (r : KV kvs vs) (k : κ) : RelO (valV kvs k) (valueAt vs k) := by
  unfold KV at r
  induction r with
  | nil => exact True.intro
  | @cons p q ps qs h t ih =>
    obtain ⟨h1, h2⟩ := h
    by_cases e : p.1 = k
    · have e' : q.1 = k := h1.symm.trans e
      have b : valueAt (q :: qs) k = some q.2 := by simp [valueAt, List.find?_cons, e']
      rw [valV_pos e, b]; exact h2
    · have e' : ¬ q.1 = k := fun z => e (h1.trans z)
      have b : valueAt (q :: qs) k = valueAt qs k := by simp [valueAt, List.find?_cons, e']
      rw [valV_neg e, b]; exact ih
theorem KV.any {kvs : List (κ × V)} {vs : List (κ × Value)} (r : KV kvs vs) (k : κ) : (kvs.any fun kv => decide (kv.1 = k)) = vs.any fun kv => decide (kv.1 = k) := by
  unfold KV at r
  induction r with
  | nil => rfl
  | cons h t ih => rw [List.any_cons, List.any_cons, ih, h.1]
theorem KV.repl {kvs : List (κ × V)} {vs : List (κ × Value)} (r : KV kvs vs) (k : κ) {y : V} {u : Value} (ry : RelV y u) :
    KV (kvs.map fun kv => if kv.1 = k then (kv.1, y) else kv) (vs.map fun kv => if kv.1 = k then (kv.1, u) else kv) := by
  unfold KV at r ⊢
  induction r with
  | nil => exact .nil
  | @cons p q ps qs h t ih =>
    rw [List.map_cons, List.map_cons]
    refine .cons ?_ ih
    obtain ⟨h1, h2⟩ := h
    by_cases e : p.1 = k
    · rw [if_pos e, if_pos (h1.symm.trans e)]; exact ⟨h1, ry⟩
    · rw [if_neg e, if_neg (fun z => e (h1.trans z))]; exact ⟨h1, h2⟩
theorem KV.put {kvs : List (κ × V)} {vs : List (κ × Value)} (r : KV kvs vs) (k : κ) {y : V} {u : Value} (ry : RelV y u) : KV (putK kvs k y) (stored vs k u) := by
  unfold putK stored
  rw [r.any k]
  by_cases e : (vs.any fun kv => decide (kv.1 = k)) = true
  · rw [if_pos e, if_pos e]; exact r.repl k ry
  · rw [if_neg e, if_neg e]; exact Paired.snoc r ⟨rfl, ry⟩
theorem KV.drop {kvs : List (κ × V)} {vs : List (κ × Value)} (r : KV kvs vs) (k : κ) : KV (dropK kvs k) (without vs k) := by
  unfold KV at r ⊢
  unfold dropK without
  induction r with
  | nil => exact .nil
  | @cons p q ps qs h t ih =>
    obtain ⟨h1, h2⟩ := h
    rw [List.filter_cons, List.filter_cons]
    by_cases e : p.1 = k
    · have a : ¬ decide (p.1 ≠ k) = true := by simp [e]
      have b : ¬ decide (q.1 ≠ k) = true := by simp [h1.symm.trans e]
      rw [if_neg a, if_neg b]; exact ih
    · have e' : ¬ q.1 = k := fun z => e (h1.trans z)
      have a : decide (p.1 ≠ k) = true := by simp [e]
      have b : decide (q.1 ≠ k) = true := by simp [e']
      rw [if_pos a, if_pos b]; exact .cons ⟨h1, h2⟩ ih
theorem KV.keys {kvs : List (κ × V)} {vs : List (κ × Value)} (r : KV kvs vs) : kvs.map (·.1) = vs.map (·.1) := by
  unfold KV at r
  induction r with
  | nil => rfl
  | cons h t ih => rw [List.map_cons, List.map_cons, ih, h.1]
theorem KV.length {kvs : List (κ × V)} {vs : List (κ × Value)} (r : KV kvs vs) : kvs.length = vs.length := Paired.length r
theorem dropK_le (kvs : List (κ × V)) (k : κ) : (dropK kvs k).length ≤ kvs.length := List.length_filter_le _ _
end


/-! ### a tracked dict, its keys ints and texts or tuples of these -/
theorem kV_is {P : Program} {w : World} {k : Key} {u : Value} (r : RelV (kV k) u) : (mixKind P w).is k u = true := by
  cases k with
  | inl i => obtain ⟨t, e⟩ := (show ∃ t, u = Value.int i t from r); subst e; exact mixKind_int P w i t
  | inr x => obtain ⟨t, e⟩ := (show ∃ t, u = Value.str x t from r); subst e; exact mixKind_str P w x t
theorem kV_inj {a b : Key} (e : kV a = kV b) : a = b := by
  cases a with
  | inl i => cases b with
    | inl j => have e' : V.int i = V.int j := e; injection e' with e'; rw [e']
    | inr y => exact nomatch (show V.int i = V.str y from e)
  | inr x => cases b with
    | inl j => exact nomatch (show V.str x = V.int j from e)
    | inr y => have e' : V.str x = V.str y := e; injection e' with e'; rw [e']
theorem kVs_inj : ∀ {a b : List Key}, a.map kV = b.map kV → a = b
  | [], [], _ => rfl
  | [], _ :: _, e => by simp at e
  | _ :: _, [], e => by simp at e
  | x :: xs, y :: ys, e => by
    rw [List.map_cons, List.map_cons] at e
    injection e with e1 e2
    rw [kV_inj e1, kVs_inj e2]
theorem items_are {P : Program} {w : World} : ∀ {ks : List Key} {us : List Value}, Vals (ks.map kV) us → ItemsAre (mixKind P w) ks us
  | [], _, r => by rw [List.map_nil] at r; cases r; exact .nil
  | k :: ks, _, r => by
    rw [List.map_cons] at r
    cases r with
    | cons h t => exact .cons (kV_is h) (items_are t)

/-- raw entries of a dict with tuple keys -/
abbrev KT (H : Hp) : List (List Key × V) → List (List Key × Addr × Value) → Prop := Paired fun p q => p.1 = q.1 ∧ H q.2.1 = some (.tup (p.1.map kV)) ∧ RelV p.2 q.2.2
theorem KT.val {H : Hp} {kvs : List (List Key × V)} {xs : List (List Key × Addr × Value)} (r : KT H kvs xs) (k : List Key) : RelO (valV kvs k) ((atKey xs k).map (·.2)) := by
  induction r with
  | nil => exact True.intro
  | @cons p q ps qs h t ih =>
    obtain ⟨h1, _, h2⟩ := h
    by_cases e : p.1 = k
    · have e' : q.1 = k := h1.symm.trans e
      have b : atKey (q :: qs) k = some q.2 := by simp [atKey, List.find?_cons, e']
      rw [valV_pos e, b]; exact h2
    · have e' : ¬ q.1 = k := fun z => e (h1.trans z)
      have b : atKey (q :: qs) k = atKey qs k := by simp [atKey, List.find?_cons, e']
      rw [valV_neg e, b]; exact ih
theorem KT.repl {H : Hp} {kvs : List (List Key × V)} {xs : List (List Key × Addr × Value)} (r : KT H kvs xs) (k : List Key) {y : V} {u : Value} (ry : RelV y u) :
    KT H (kvs.map fun kv => if kv.1 = k then (kv.1, y) else kv) (xs.map (putAt k u)) := by
  induction r with
  | nil => exact .nil
  | @cons p q ps qs h t ih =>
    rw [List.map_cons, List.map_cons]
    refine .cons ?_ ih
    obtain ⟨h1, h2, h3⟩ := h
    unfold putAt
    by_cases e : p.1 = k
    · rw [if_pos e, if_pos (h1.symm.trans e)]; exact ⟨h1, h2, ry⟩
    · rw [if_neg e, if_neg (fun z => e (h1.trans z))]; exact ⟨h1, h2, h3⟩
theorem KT.put {H : Hp} {kvs : List (List Key × V)} {xs : List (List Key × Addr × Value)} (r : KT H kvs xs) (k : List Key) {b : Addr} {y : V} {u : Value} (hb : H b = some (.tup (k.map kV))) (ry : RelV y u) :
    KT H (putK kvs k y) (storedH xs k b u) := by
  have e : (kvs.any fun kv => decide (kv.1 = k)) = (atKey xs k).isSome := by
    rw [valV_any, (r.val k).isSome_eq, Option.isSome_map]
  unfold putK storedH
  rw [e]
  by_cases q : (atKey xs k).isSome = true
  · rw [if_pos q, if_pos q]; exact r.repl k ry
  · rw [if_neg q, if_neg q]; exact Paired.snoc r ⟨rfl, hb, ry⟩
theorem KT.keeps {H H' : Hp} {kvs : List (List Key × V)} {xs : List (List Key × Addr × Value)} (r : KT H kvs xs) (ht : ∀ b ys, H b = some (.tup ys) → H' b = some (.tup ys)) : KT H' kvs xs :=
  Paired.mapP r fun _ _ z => ⟨z.1, ht _ _ z.2.1, z.2.2⟩

section
variable {P : Program} {w : World} {H : Hp} {h : Heap} {a : Addr}
theorem rd_of {u : HO} (ok : HOk P w H h) (e : Rd H a u) : ObjOk P w H h a u := e.ok ok
theorem dk_rd {kvs : List (Key × V)} (ok : HOk P w H h) (e : Rd H a (.dK kvs)) : kvs.length ≤ sizeLine ∧ (a == sysModules) = false ∧ ∃ vs, KV kvs vs ∧ h.DictOf (mixKind P w) a vs :=
  show ObjOk P w H h a (.dK kvs) from rd_of ok e
theorem dk_of {kvs : List (Key × V)} (ok : HOk P w H h) (e : H a = some (.dK kvs)) : kvs.length ≤ sizeLine ∧ (a == sysModules) = false ∧ ∃ vs, KV kvs vs ∧ h.DictOf (mixKind P w) a vs := dk_rd ok (.inl e)
/-- a tracked tuple of ints and texts is a key -/
theorem key_of {ks : List Key} (ok : HOk P w H h) (e : H a = some (.tup (ks.map kV))) : (tupleKind (mixKind P w)).is h ks a := by
  obtain ⟨_, its, r, o, h1, h2, n, h3⟩ := (show ObjOk P w H h a (.tup (ks.map kV)) from ok a _ e)
  exact ⟨o, its.toArray, n, h1, h2, h3, by simpa using items_are r⟩
theorem dt_rd {kvs : List (List Key × V)} (ok : HOk P w H h) (e : Rd H a (.dT kvs)) : kvs.length ≤ sizeLine ∧ (a == sysModules) = false ∧
    ∃ xs, KT H kvs xs ∧ h.DictOfH (tupleKind (mixKind P w)) a xs := by
  obtain ⟨z, y, xs, r, o, es, ep, h1, h2, h3, h4, h5⟩ := (show ObjOk P w H h a (.dT kvs) from rd_of ok e)
  refine ⟨z, y, xs, r, o, es, ep, h1, h2, h3, h4, fun x hx => ?_, h5⟩
  have all : ∀ {l : List (List Key × V)} {m : List (List Key × Addr × Value)}, KT H l m → ∀ x ∈ m, (tupleKind (mixKind P w)).is h x.1 x.2.1 := by
    intro l m q
    induction q with
    | nil => intro x hx; exact nomatch hx
    | @cons p q ps qs hq t ih =>
      intro x hx
      rcases List.mem_cons.mp hx with e | hx
      · subst e
        exact key_of ok (by rw [← hq.1]; exact hq.2.1)
      · exact ih x hx
  exact all r x hx
theorem dt_of {kvs : List (List Key × V)} (ok : HOk P w H h) (e : H a = some (.dT kvs)) : kvs.length ≤ sizeLine ∧ (a == sysModules) = false ∧
    ∃ xs, KT H kvs xs ∧ h.DictOfH (tupleKind (mixKind P w)) a xs := dt_rd ok (.inl e)
end

/-- what the dict at a holds at the key y -/
def DGet (H : Hp) (a : Addr) (y : V) (r : Option V) : Prop :=
  (∃ kvs k, Rd H a (.dK kvs) ∧ y = kV k ∧ r = valV kvs k) ∨ ∃ kvs k b, Rd H a (.dT kvs) ∧ y = .ref b ∧ H b = some (.tup (k.map kV)) ∧ r = valV kvs k
/-- the heap behind a[y] = v -/
def DPut (H : Hp) (a : Addr) (y v : V) (H' : Hp) : Prop :=
  (∃ kvs k, H a = some (.dK kvs) ∧ y = kV k ∧ kvs.length < sizeLine ∧ H' = upd H a (.dK (putK kvs k v))) ∨
  ∃ kvs k b, H a = some (.dT kvs) ∧ y = .ref b ∧ H b = some (.tup (k.map kV)) ∧ kvs.length < sizeLine ∧ H' = upd H a (.dT (putK kvs k v))
theorem DGet.k {H : Hp} {a : Addr} {kvs : List (Key × V)} {k : Key} (e : H a = some (.dK kvs)) : DGet H a (kV k) (valV kvs k) := .inl ⟨kvs, k, .inl e, rfl, rfl⟩
theorem DGet.t {H : Hp} {a b : Addr} {kvs : List (List Key × V)} {k : List Key} (e : H a = some (.dT kvs)) (eb : H b = some (.tup (k.map kV))) : DGet H a (.ref b) (valV kvs k) := .inr ⟨kvs, k, b, .inl e, rfl, eb, rfl⟩
theorem DPut.k {H : Hp} {a : Addr} {kvs : List (Key × V)} {k : Key} {v : V} (e : H a = some (.dK kvs)) (hl : kvs.length < sizeLine) : DPut H a (kV k) v (upd H a (.dK (putK kvs k v))) := .inl ⟨kvs, k, e, rfl, hl, rfl⟩
theorem DPut.t {H : Hp} {a b : Addr} {kvs : List (List Key × V)} {k : List Key} {v : V} (e : H a = some (.dT kvs)) (eb : H b = some (.tup (k.map kV))) (hl : kvs.length < sizeLine) :
    DPut H a (.ref b) v (upd H a (.dT (putK kvs k v))) := .inr ⟨kvs, k, b, e, rfl, eb, hl, rfl⟩


section
variable {X : Cx} {pins : List (Addr × Obj)} {σ : St} {H : Hp} {s : Shared} {a : Addr} {y v : V} {u r : Value} {o : Option V} {A : Around} {E : Value → Shared → Prop}

theorem Inv.big (I : Inv X pins σ H s) : sysModules < s.heap.objs.size := by
  have h : mainGlobals < s.heap.objs.size := (I.mod.glob.keeps I.bk).lt
  exact Nat.lt_trans (by decide) h

/-- d[y], there -/
theorem d_getItem {Q : Value → Shared → Prop} (hu : A.units + 1 < cLine) (I : Inv X pins σ H s) (g : DGet H a y (some v)) (ry : RelV y u) (h : ∀ w' s', Inv X pins σ H s' → RelV v w' → Q w' s') :
    wpAny (model X.prog X.w) A (getItem (.ref a) u) Q E s := by
  rcases g with ⟨kvs, k, e, ey, l⟩ | ⟨kvs, k, b, e, ey, eb, l⟩
  · subst ey
    obtain ⟨z, hd, vs, rel, dd⟩ := dk_rd I.hok e
    obtain ⟨w', hw, rw'⟩ := RelO.some_of (v := v) (o := valueAt vs k) (by rw [l]; exact rel.val k)
    exact wpAny_getItem_of (kV_is ry) dd.mapOf hw (h w' _ (I.tok _) rw')
  · subst ey
    cases (show u = Value.ref b from ry)
    obtain ⟨z, hd, xs, rel, dd⟩ := dt_rd I.hok e
    obtain ⟨w', hw, rw'⟩ := RelO.some_of (v := v) (o := (atKey xs k).map (·.2)) (by rw [l]; exact rel.val k)
    obtain ⟨p, hp, hp2⟩ := Option.map_eq_some_iff.mp hw
    refine wpAny_getItem_heap (tupleKind_room_in1 hu) (key_of I.hok eb) dd hp ?_
    rw [hp2]
    exact h w' _ (I.tok _) rw'
/-- y in d -/
theorem d_in {Q : Value → Shared → Prop} (hu : A.units + 1 < cLine) (I : Inv X pins σ H s) (g : DGet H a y o) (ry : RelV y u) (h : ∀ s', Inv X pins σ H s' → Q (.bool o.isSome) s') :
    wpAny (model X.prog X.w) A (compareOp .In u (.ref a)) Q E s := by
  rcases g with ⟨kvs, k, e, ey, l⟩ | ⟨kvs, k, b, e, ey, eb, l⟩
  · subst ey
    obtain ⟨z, hd, vs, rel, dd⟩ := dk_rd I.hok e
    refine wpAny_in_of (kV_is ry) hd dd.mapOf ?_
    rw [← (rel.val k).isSome_eq, ← l]
    exact h _ (I.tok _)
  · subst ey
    cases (show u = Value.ref b from ry)
    obtain ⟨z, hd, xs, rel, dd⟩ := dt_rd I.hok e
    refine wpAny_in_heap (tupleKind_room_in1 hu) (key_of I.hok eb) hd dd ?_
    have q := (rel.val k).isSome_eq
    rw [Option.isSome_map] at q
    rw [← q, ← l]
    exact h _ (I.tok _)
theorem d_notIn {Q : Value → Shared → Prop} (hu : A.units + 1 < cLine) (I : Inv X pins σ H s) (g : DGet H a y o) (ry : RelV y u) (h : ∀ s', Inv X pins σ H s' → Q (.bool (!o.isSome)) s') :
    wpAny (model X.prog X.w) A (compareOp .NotIn u (.ref a)) Q E s := by
  rcases g with ⟨kvs, k, e, ey, l⟩ | ⟨kvs, k, b, e, ey, eb, l⟩
  · subst ey
    obtain ⟨z, hd, vs, rel, dd⟩ := dk_rd I.hok e
    refine wpAny_notIn_of (kV_is ry) hd dd.mapOf ?_
    rw [← (rel.val k).isSome_eq, ← l]
    exact h _ (I.tok _)
  · subst ey
    cases (show u = Value.ref b from ry)
    obtain ⟨z, hd, xs, rel, dd⟩ := dt_rd I.hok e
    refine wpAny_notIn_heap (tupleKind_room_in1 hu) (key_of I.hok eb) hd dd ?_
    have q := (rel.val k).isSome_eq
    rw [Option.isSome_map] at q
    rw [← q, ← l]
    exact h _ (I.tok _)
/-- a dict's object is replaced -/
theorem d_write {h' : Heap} {t' : Nat} {ob : HO} (I : Inv X pins σ H s) (mu : Mut (H a)) (hs : Heap.SameBut a s.heap h') (he : ∃ q, h'.get? a = some q) (new : ObjOk X.prog X.w (upd H a ob) h' a ob) :
    Inv X pins σ (upd H a ob) { s with heap := h', toks := t' } :=
  I.write (x := a) (e := a) mu (.inl rfl) (fun b q hb z => (hs.2 b hb).trans z) he new
theorem dk_new {P : Program} {w : World} {H' : Hp} {h' : Heap} {kvs : List (Key × V)} {vs : List (Key × Value)} (z : kvs.length ≤ sizeLine) (hd : (a == sysModules) = false) (rel : KV kvs vs) (dd : h'.DictOf (mixKind P w) a vs) :
    ObjOk P w H' h' a (.dK kvs) := ⟨z, hd, vs, rel, dd⟩
/-- d[y] = v -/
theorem d_setItem {H' : Hp} {Q : Unit → Shared → Prop} (hu : A.units + 1 < cLine) (I : Inv X pins σ H s) (g : DPut H a y v H') (ry : RelV y u) (rv : RelV v r) (h : ∀ s', Inv X pins σ H' s' → Q () s') :
    wpAny (model X.prog X.w) A (setItem (.ref a) u r) Q E s := by
  rcases g with ⟨kvs, k, e, ey, l, eH⟩ | ⟨kvs, k, b, e, ey, eb, l, eH⟩
  · subst ey eH
    obtain ⟨z, hd, vs, rel, dd⟩ := dk_of I.hok e
    have hz : vs.length ≤ sizeLine := by rw [← rel.length]; exact z
    have hl : (putK kvs k v).length ≤ sizeLine := by have := length_putK kvs k v; omega
    refine wpAny_setItem_pairs (hsz := hz) (kV_is ry) dd fun h' dd' hs => h _ ?_
    have he : ∃ q, h'.get? a = some q := let ⟨q, _, _, hq, _⟩ := dd'; ⟨q, hq⟩
    exact d_write I (by rw [e]; exact True.intro) hs he (dk_new hl hd (rel.put k rv) dd')
  · subst ey eH
    cases (show u = Value.ref b from ry)
    obtain ⟨z, hd, xs, rel, dd⟩ := dt_of I.hok e
    have hz : xs.length ≤ sizeLine := by rw [← Paired.length rel]; exact z
    have hl : (putK kvs k v).length ≤ sizeLine := by have := length_putK kvs k v; omega
    refine wpAny_setItem_heap (hsz := hz) (tupleKind_room_in1 hu) (key_of I.hok eb) dd fun h' dd' hs => h _ ?_
    obtain ⟨q, es, ep, hq, h2, h3, h4, _, h5⟩ := dd'
    refine d_write I (by rw [e]; exact True.intro) hs ⟨q, hq⟩ ⟨hl, hd, _, (rel.put k eb rv).keeps fun c ys ec => ?_, q, es, ep, hq, h2, h3, h4, h5⟩
    rw [upd_ne (ne_of ec e (fun z => nomatch z))]
    exact ec
end

section
variable {X : Cx} {pins : List (Addr × Obj)} {σ : St} {H : Hp} {s : Shared} {a : Addr} {kvs : List (Key × V)} {k : Key} {u : Value} {A : Around} {E : Value → Shared → Prop}
/-- del d[k] -/
theorem d_delItem {Q : Unit → Shared → Prop} (I : Inv X pins σ H s) (e : H a = some (.dK kvs)) (ry : RelV (kV k) u) (l : (valV kvs k).isSome = true) (h : ∀ s', Inv X pins σ (upd H a (.dK (dropK kvs k))) s' → Q () s') :
    wpAny (model X.prog X.w) A (delItem (.ref a) u) Q E s := by
  obtain ⟨z, hd, vs, rel, dd⟩ := dk_of I.hok e
  refine wpAny_delItem_slot dd.typeIs (by decide) PySem.F.slot_dict_delitem
    (call_meetsIn PySem.F.slot_dict_delitem dd.typeIs PySem.F.entry_dict_delitem (PySem.F.args_dict_delitem_2 _ _) (meets_dict_delitem_pairs (mixKind X.prog X.w) a (kV_is ry)) ⟨vs, dd, by rw [← rel.length]; exact z, by rw [← (rel.val k).isSome_eq]; exact l, fun h' dd' hs => h _ ?_⟩)
  have he : ∃ q, h'.get? a = some q := let ⟨q, _, _, hq, _⟩ := dd'; ⟨q, hq⟩
  exact d_write I (by rw [e]; exact True.intro) hs he (dk_new (Nat.le_trans (dropK_le kvs k) z) hd (rel.drop k) dd')
/-- d.pop(k[, x]), there -/
theorem d_pop {v : V} {more : List Value} {Q : Value → Shared → Prop} (I : Inv X pins σ H s) (e : H a = some (.dK kvs)) (ry : RelV (kV k) u) (l : valV kvs k = some v) (hm : more = [] ∨ ∃ x, more = [x])
    (h : ∀ w' s', Inv X pins σ (upd H a (.dK (dropK kvs k))) s' → RelV v w' → Q w' s') : wpAny (model X.prog X.w) A (call (.builtin "dict.pop") (.ref a :: u :: more)) Q E s := by
  obtain ⟨z, hd, vs, rel, dd⟩ := dk_of I.hok e
  obtain ⟨w', hw, rw'⟩ := RelO.some_of (v := v) (o := valueAt vs k) (by rw [← l]; exact rel.val k)
  have hp : (keyPart u).isSome = true := by
    cases k with
    | inl i => obtain ⟨t, q⟩ := (show ∃ t, u = Value.int i t from ry); subst q; rfl
    | inr x => obtain ⟨t, q⟩ := (show ∃ t, u = Value.str x t from ry); subst q; rfl
  have ha : argsOk "dict.pop" ⟨.ref a :: u :: more, []⟩ := by
    rcases hm with q | ⟨x, q⟩
    · subst q; exact PySem.F.args_dict_pop_2 _ _
    · subst q; exact PySem.F.args_dict_pop_3 _ _ _
  refine call_meetsIn PySem.F.slot_dict_pop dd.typeIs PySem.F.entry_dict_pop ha (meets_dict_pop_there (mixKind X.prog X.w) a (kV_is ry) more hm hp)
    ⟨vs, w', dd, by rw [← rel.length]; exact z, hw, fun h' dd' hs => h w' _ ?_ rw'⟩
  have he : ∃ q, h'.get? a = some q := let ⟨q, _, _, hq, _⟩ := dd'; ⟨q, hq⟩
  exact d_write I (by rw [e]; exact True.intro) hs he (dk_new (Nat.le_trans (dropK_le kvs k) z) hd (rel.drop k) dd')
/-- d.pop(k, x), not there -/
theorem d_popD {r : Value} {Q : Value → Shared → Prop} (I : Inv X pins σ H s) (e : H a = some (.dK kvs)) (ry : RelV (kV k) u) (l : valV kvs k = none) (h : ∀ s', Inv X pins σ H s' → Q r s') :
    wpAny (model X.prog X.w) A (call (.builtin "dict.pop") [.ref a, u, r]) Q E s := by
  obtain ⟨z, hd, vs, rel, dd⟩ := dk_of I.hok e
  have hn : valueAt vs k = none := RelO.none_of (by rw [← l]; exact rel.val k)
  have hp : (keyPart u).isSome = true := by
    cases k with
    | inl i => obtain ⟨t, q⟩ := (show ∃ t, u = Value.int i t from ry); subst q; rfl
    | inr x => obtain ⟨t, q⟩ := (show ∃ t, u = Value.str x t from ry); subst q; rfl
  exact call_meetsIn PySem.F.slot_dict_pop dd.typeIs PySem.F.entry_dict_pop (PySem.F.args_dict_pop_3 _ _ _) (meets_dict_pop_default (mixKind X.prog X.w) a (kV_is ry) hd hp r) ⟨vs, dd, hn, h _ (I.tok _)⟩
/-- d.clear() -/
theorem d_clear {Q : Value → Shared → Prop} (I : Inv X pins σ H s) (e : H a = some (.dK kvs)) (h : ∀ s', Inv X pins σ (upd H a (.dK [])) s' → Q .none s') : wpAny (model X.prog X.w) A (call (.builtin "dict.clear") [.ref a]) Q E s := by
  obtain ⟨z, hd, vs, rel, dd⟩ := dk_of I.hok e
  refine call_meetsIn PySem.F.slot_dict_clear dd.typeIs PySem.F.entry_dict_clear (PySem.F.args_dict_clear_1 _) (meets_dict_clear (mixKind X.prog X.w) a) ⟨vs, dd, by rw [← rel.length]; exact z, fun h' dd' hs => h _ ?_⟩
  have he : ∃ q, h'.get? a = some q := let ⟨q, _, _, hq, _⟩ := dd'; ⟨q, hq⟩
  exact d_write (t' := s.toks) I (by rw [e]; exact True.intro) hs he (dk_new (Nat.zero_le _) hd .nil dd')
/-- len(d) -/
theorem d_len {Q : Value → Shared → Prop} (I : Inv X pins σ H s) (e : Rd H a (.dK kvs)) (h : ∀ t s', Inv X pins σ H s' → Q (.int kvs.length t) s') : wpAny (model X.prog X.w) A (call (.builtin "len") [.ref a]) Q E s := by
  obtain ⟨z, hd, vs, rel, dd⟩ := dk_rd I.hok e
  refine call_len_dict hd dd (by rw [← rel.length]; rw [sizeLine_eq] at z; omega) ?_
  rw [← rel.length]
  exact h _ _ (I.tok _)
/-- if d -/
theorem d_truth {Q : Bool → Shared → Prop} (I : Inv X pins σ H s) (e : Rd H a (.dK kvs)) (h : ∀ s', Inv X pins σ H s' → Q (!kvs.isEmpty) s') : wpAny (model X.prog X.w) A (truthy (.ref a)) Q E s := by
  obtain ⟨z, hd, vs, rel, dd⟩ := dk_rd I.hok e
  refine wpAny_truthy_dict hd dd (by rw [← rel.length]; rw [sizeLine_eq] at z; omega) ?_
  have q : kvs.isEmpty = vs.isEmpty := by cases rel <;> rfl
  rw [← q]
  exact h _ (I.tok _)
end


/-! ### readings and rules -/
/-- the element of a subscription, not a slice -/
def NoSl (i : Expr) : Prop := ∀ ov iv, subscripted i false ov iv = operate [ov, iv] (getItem ov iv)
theorem subD_of {prog : Program} {w : World} {A : Around} {E : Value → Shared → Prop} {s : Shared} {env : Env} {value slice : Expr} {pos : Pos} {T id : String} {Q : Value → Shared → Prop}
    (hl : typeLookup (.type T) "__getitem__" = pure (some (.builtin id))) (hs : NoSl slice)
    (h : wpAny (model prog w) A (eval value env) (fun o s₁ => wpAny (model prog w) A (eval slice env) (fun i s₂ => s₂.TypeIs o T ∧ wpAny (model prog w) A (getItem o i) Q E s₂) E s₁) E s) :
    wpAny (model prog w) A (eval (.Subscript value slice pos) env) Q E s := by
  refine Subscript_ (wpAny_mono h (fun o s₁ h₁ => wpAny_mono h₁ (fun i s₂ h₂ => ?_) fun _ _ x => x) fun _ _ x => x)
  obtain ⟨hT, h₂⟩ := h₂
  unfold subscriptTail
  refine wpAny_bind ?_
  rw [getitemInPython_of_ne hT.not_modules]
  refine wpAny_bind (wpAny_specialOf hT hl ?_)
  have fin : wpAny (model prog w) A (subscripted slice false o i) (fun r s₃ => wpAny (model prog w) A (letTemporaryGo value o r >>= fun _ => pure r) Q E s₃) E s₂ := by
    rw [hs o i]
    exact wpAny_operating (wpAny_mono h₂ (fun r s₃ h₃ => wpAny_bind (wpAny_letTemporaryGo (wpAny_pure h₃))) fun _ _ x => x)
  first
    | exact wpAny_pure (wpAny_bind fin)
    | exact wpAny_bind (wpAny_pure (wpAny_bind fin))
    | exact wpAny_bind fin

theorem dict_typeIs {X : Cx} {pins : List (Addr × Obj)} {σ : St} {H : Hp} {s : Shared} {a : Addr} {y : V} {o : Option V} (I : Inv X pins σ H s) (g : DGet H a y o) : s.TypeIs (.ref a) "dict" := by
  rcases g with ⟨kvs, k, e, _, _⟩ | ⟨kvs, k, b, e, _, _, _⟩
  · obtain ⟨_, _, vs, _, dd⟩ := dk_rd I.hok e
    exact dd.typeIs
  · obtain ⟨_, _, xs, _, dd⟩ := dt_rd I.hok e
    exact dd.typeIs
theorem dict_noDict {X : Cx} {pins : List (Addr × Obj)} {σ : St} {H : Hp} {s : Shared} {a : Addr} {y : V} {o : Option V} (I : Inv X pins σ H s) (g : DGet H a y o) :
    ∀ b, Value.ref a = .ref b → ∃ ob, s.heap.get? b = some ob ∧ ob.dict = none := fun b q => by
  cases q
  rcases g with ⟨kvs, k, e, _, _⟩ | ⟨kvs, k, b, e, _, _, _⟩
  · obtain ⟨_, _, vs, _, ob, _, _, h1, h2, _⟩ := dk_rd I.hok e
    exact ⟨ob, h1, h2.2.1⟩
  · obtain ⟨_, _, xs, _, ob, _, _, h1, h2, _⟩ := dt_rd I.hok e
    exact ⟨ob, h1, h2.2.1⟩

/-- d[y] -/
def tDGet (td ty : TE) : TE := fun σ H Q => td σ H fun x H1 => ty σ H1 fun y H2 => ∃ a v, x = .ref a ∧ DGet H2 a y (some v) ∧ Q v H2
/-- y in d, y not in d -/
def tDIn (ty td : TE) : TE := fun σ H Q => ty σ H fun y H1 => td σ H1 fun x H2 => ∃ a o, x = .ref a ∧ DGet H2 a y o ∧ Q (.bl o.isSome) H2
def tDNotIn (ty td : TE) : TE := fun σ H Q => ty σ H fun y H1 => td σ H1 fun x H2 => ∃ a o, x = .ref a ∧ DGet H2 a y o ∧ Q (.bl (!o.isSome)) H2
/-- d[y] = v -/
def sDPut (td ty tv : TE) : TS := fun D σ H => tv σ H fun v H1 => td σ H1 fun x H2 => ty σ H2 fun y H3 => ∃ a H4, x = .ref a ∧ DPut H3 a y v H4 ∧ D.nx σ H4
/-- d[y] op= v -/
def sDAug (td ty tv : TE) (rd : V → V → Hp → VK → Prop) : TS := fun D σ H => td σ H fun x H1 => ty σ H1 fun y H2 => ∃ a v, x = .ref a ∧ DGet H2 a y (some v) ∧
  tv σ H2 fun y2 H3 => rd v y2 H3 fun z H4 => ∃ H5, DPut H4 a y z H5 ∧ D.nx σ H5
/-- del d[y] -/
def sDDel (td ty : TE) : TS := fun D σ H => td σ H fun x H1 => ty σ H1 fun y H2 => ∃ a kvs k, x = .ref a ∧ H2 a = some (.dK kvs) ∧ y = kV k ∧ (valV kvs k).isSome = true ∧ D.nx σ (upd H2 a (.dK (dropK kvs k)))

section
variable {X : Cx} {o i e value : Expr} {pos pos' tpos : Pos} {td ty tv : TE}
theorem pe_dget (hu : X.A.units + 1 < cLine) (ho : PE X o td) (hi : PE X i ty) (hs : NoSl i) : PE X (.Subscript o i pos) (tDGet td ty) := by
  intro pins s σ H Q I h
  refine subD_of PySem.F.slot_dict_getitem.lookup hs (thn (ho pins s σ H _ I h) fun u s1 ⟨x, H1, I1, rx, q1⟩ => thn (hi pins s1 σ H1 _ I1 q1) fun iv s2 ⟨y, H2, I2, ry, a, v, ex, g, q2⟩ => ?_)
  subst ex
  obtain rfl : u = Value.ref a := rx
  exact ⟨dict_typeIs I2 g, d_getItem hu I2 g ry fun w' s3 I3 rw' => ⟨v, H2, I3, rw', q2⟩⟩
theorem pc_din (hu : X.A.units + 1 < cLine) (hi : PE X i ty) (ho : PE X o td) : PC X .In i o (tDIn ty td) := by
  intro pins s σ H Q I h
  refine thn (hi pins s σ H _ I h) fun iv s1 ⟨y, H1, I1, ry, q1⟩ => thn (ho pins s1 σ H1 _ I1 q1) fun u s2 ⟨x, H2, I2, rx, a, ov, ex, g, q2⟩ => ?_
  subst ex
  obtain rfl : u = Value.ref a := rx
  exact d_in hu I2 g ry fun s3 I3 => ⟨.bl ov.isSome, H2, I3, rfl, q2⟩
theorem pc_dnotin (hu : X.A.units + 1 < cLine) (hi : PE X i ty) (ho : PE X o td) : PC X .NotIn i o (tDNotIn ty td) := by
  intro pins s σ H Q I h
  refine thn (hi pins s σ H _ I h) fun iv s1 ⟨y, H1, I1, ry, q1⟩ => thn (ho pins s1 σ H1 _ I1 q1) fun u s2 ⟨x, H2, I2, rx, a, ov, ex, g, q2⟩ => ?_
  subst ex
  obtain rfl : u = Value.ref a := rx
  exact d_notIn hu I2 g ry fun s3 I3 => ⟨.bl (!ov.isSome), H2, I3, rfl, q2⟩
theorem ps_dput (hu : X.A.units + 1 < cLine) (ho : PE X o td) (hi : PE X i ty) (hv : PE X value tv) (hs : swapsWith value (some (.Subscript o i pos')) pos.line X.env = pure false) :
    PS X (.Assign [.Subscript o i pos'] value pos) (sDPut td ty tv) := by
  intro pins s σ H D I h
  refine wpAny_Assign_Subscript (thn (hv pins s σ H _ I h) fun r s1 ⟨v, H1, I1, rv, q1⟩ => thn (ho pins s1 σ H1 _ I1 q1) fun u s2 ⟨x, H2, I2, rx, q2⟩ => thn (hi pins s2 σ H2 _ I2 q2) fun iv s3 ⟨y, H3, I3, ry, a, H4, ex, g, q3⟩ => ?_) hs
  subst ex
  obtain rfl : u = Value.ref a := rx
  exact d_setItem hu I3 g ry rv fun s4 I4 => ⟨σ, H4, I4, q3⟩
theorem ps_daug {op : Operator} {rd : V → V → Hp → VK → Prop} (hu : X.A.units + 1 < cLine) (ho : PE X o td) (hi : PE X i ty) (hv : PE X value tv) (hop : InOp X op rd)
    (ha : ∀ ov iv new, augStore i ov iv new = (do holding [new, ov, iv] (setItem ov iv new); release [new, ov, iv] []; pure .next)) : PS X (.AugAssign (.Subscript o i tpos) op value pos) (sDAug td ty tv rd) := by
  intro pins s σ H D I h
  refine wpAny_AugAssign_SubscriptAny (thn (ho pins s σ H _ I h) fun u s1 ⟨x, H1, I1, rx, q1⟩ => thn (hi pins s1 σ H1 _ I1 q1) fun iv s2 ⟨y, H2, I2, ry, a, v, ex, g, q2⟩ => ?_) ha
  subst ex
  obtain rfl : u = Value.ref a := rx
  refine d_getItem hu I2 g ry fun w' s3 I3 rw' => thn (hv pins s3 σ H2 _ I3 q2) fun w2 s4 ⟨y2, H3, I4, ry2, q3⟩ => thn (hop pins s4 σ H3 v y2 w' w2 _ I4 rw' ry2 q3) fun w3 s5 ⟨z, H4, I5, rz, H5, g5, q4⟩ => ?_
  exact d_setItem hu I5 g5 ry rz fun s6 I6 => ⟨σ, H5, I6, q4⟩
theorem ps_ddel (ho : PE X o td) (hi : PE X i ty) : PS X (.Delete [.Subscript o i tpos] pos) (sDDel td ty) := by
  intro pins s σ H D I h
  refine wpAny_Delete (wpAny_deleteEach_cons (wpAny_delete_Subscript (thn (ho pins s σ H _ I h) fun u s1 ⟨x, H1, I1, rx, q1⟩ => thn (hi pins s1 σ H1 _ I1 q1) fun iv s2 ⟨y, H2, I2, ry, a, kvs, k, ex, e, ey, l, q2⟩ => ?_)))
  subst ex ey
  obtain rfl : u = Value.ref a := rx
  exact d_delItem I2 e ry l fun s3 I3 => wpAny_deleteEach_nil ⟨σ, _, I3, q2⟩
end


/-! ### displays -/
theorem dk_empty {P : Program} {w : World} {H : Hp} (h : Heap) (hb : sysModules < h.objs.size) : ObjOk P w H (h.push { cls := .type "dict", data := .dict #[] }) h.objs.size (.dK []) :=
  ⟨Nat.zero_le _, beq_eq_false_iff_ne.mpr (Ne.symm (Nat.ne_of_lt hb)), [], .nil, Heap.DictOf.new h⟩
theorem dt_empty {P : Program} {w : World} {H : Hp} (h : Heap) (hb : sysModules < h.objs.size) : ObjOk P w H (h.push { cls := .type "dict", data := .dict #[] }) h.objs.size (.dT []) :=
  ⟨Nat.zero_le _, beq_eq_false_iff_ne.mpr (Ne.symm (Nat.ne_of_lt hb)), [], .nil, _, #[], 0, Heap.get?_push_size _ rfl, ⟨rfl, rfl, rfl⟩, rfl, rfl, List.nodup_nil⟩
/-- {}, to be a dict of the kind that is wanted -/
def tDNewK : TE := fun _ H Q => ∀ p, H p = none → Q (.ref p) (upd H p (.dK []))
def tDNewT : TE := fun _ H Q => ∀ p, H p = none → Q (.ref p) (upd H p (.dT []))
section
variable {X : Cx} {pos : Pos}
theorem pe_dnewK : PE X (.Dict [] [] pos) tDNewK := fun pins s σ H Q I h =>
  wpAny_Dict_empty ⟨.ref s.heap.objs.size, _, I.laid (a := s.heap.objs.size) (o := .dK []) (t' := s.toks) (fun _ _ q => Heap.get?_push_of_some _ q) (Nat.le_refl _) (dk_empty s.heap I.big), rfl, h _ (I.hok.fresh (Nat.le_refl _))⟩
theorem pe_dnewT : PE X (.Dict [] [] pos) tDNewT := fun pins s σ H Q I h =>
  wpAny_Dict_empty ⟨.ref s.heap.objs.size, _, I.laid (a := s.heap.objs.size) (o := .dT []) (t' := s.toks) (fun _ _ q => Heap.get?_push_of_some _ q) (Nat.le_refl _) (dt_empty s.heap I.big), rfl, h _ (I.hok.fresh (Nat.le_refl _))⟩
end
end L2

namespace L2
open PySem PySem.Spec PyProof.Rows Fb
/-! ### an exception that flies over the frames -/
theorem HOk.stays {P : Program} {w : World} {H : Hp} {h h' : Heap} (x : HOk P w H h) (k : ∀ b u o, H b = some u → h.get? b = some o → h'.get? b = some o) : HOk P w H h' := fun a o e =>
  (x a o e).stay (fun b u hb q => by
    rcases hb with rfl | hb
    · exact k b o u e q
    · exact k b _ u hb q) (fun b q => q) fun b xs q => q
/-- C: its class, l: the frames that it is to pass, H, h0: what stood ahead -/
structure Fly (P : Program) (w : World) (C : Addr) (l : List Env) (H : Hp) (h0 : Heap) (x : Addr) (H' : Hp) (h : Heap) : Prop where
  un : Un (frs l) [] H H' h0 h
  hok : HOk P w H' h
  new : h0.get? x = none
  xfree : H' x = none
  fly : ∃ B a0, Heap.FlyingW B l x (.ref C) a0 h ∧ (∀ b u o, H' b = some u → h.get? b = some o → B.get? b = some o) ∧ (∀ b o o', h0.get? b = some o → b ∉ frs l → h.get? b = some o' → B.get? b = some o')
theorem obj_here {P : Program} {w : World} {H : Hp} {h : Heap} {a : Addr} : ∀ {o : HO}, ObjOk P w H h a o → ∃ ob, h.get? a = some ob
  | .lst _, ⟨_, _, _, _, e⟩ => ⟨_, e⟩
  | .tup _, ⟨_, _, _, _, e, _⟩ => ⟨_, e⟩
  | .dK _, ⟨_, _, _, _, _, _, _, e, _⟩ => ⟨_, e⟩
  | .dT _, ⟨_, _, _, _, _, _, _, e, _⟩ => ⟨_, e⟩
  | .set _ _, x => by
    obtain ⟨_, _, _, _, e, _⟩ := x
    exact ⟨_, e⟩
  | .ins _ _ _, ⟨_, _, _, e, _⟩ => ⟨_, e⟩
  | .own _, e => e
  | .xd _, ⟨_, ⟨_, _, _, e, _⟩, _⟩ => ⟨_, e⟩
  | .met _ _, e => ⟨_, e⟩
  | .rng _ _, ⟨_, _, _, e⟩ => ⟨_, e⟩
  | .frz _ _, ⟨e, _⟩ => ⟨_, e⟩
  | .tbl _, e => ⟨_, e⟩
  | .ext _, ⟨_, e, _⟩ => e
theorem fun_mem {h B : Heap} {l : List Env} (F : h.FunFrames B l) {b : Addr} (hb : b ∈ frs l) : B.get? b = none ∧ ∃ o, h.get? b = some o ∧ ∀ vs, o.data ≠ .fields vs := F.mem hb
/-- noted once more by the same frames -/
theorem Fly.move {P : Program} {w : World} {C : Addr} {l : List Env} {H H' : Hp} {h0 h h' : Heap} {x : Addr} {B : Heap} {a0 : Value} (un : Un (frs l) [] H H' h0 h) (hok : HOk P w H' h) (new : h0.get? x = none) (xfree : H' x = none)
    (F : h.FunFrames B l) (p1 : ∀ b u o, H' b = some u → h.get? b = some o → B.get? b = some o) (p2 : ∀ b o o', h0.get? b = some o → b ∉ frs l → h.get? b = some o' → B.get? b = some o')
    (f' : Heap.FlyingW B l x (.ref C) a0 h') (sl : h.UpToSlots h') : Fly P w C l H h0 x H' h' := by
  have kp : ∀ b o, B.get? b = some o → h'.get? b = some o := f'.1
  have there : ∀ b o, h0.get? b = some o → ∃ o', h'.get? b = some o' := fun b o q => by
    obtain ⟨o1, q1⟩ := un.there b o q (by simp)
    by_cases hb : b ∈ frs l
    · obtain ⟨_, o2, q2, hd⟩ := fun_mem F hb
      obtain ⟨sl2, q3⟩ := sl b o2 q2 hd
      exact ⟨_, q3⟩
    · exact ⟨o1, kp b o1 (p2 b o o1 q hb q1)⟩
  refine ⟨⟨fun b o q n hb hx => kp b o (p2 b o o q hb (un.keep b o q n hb hx)), fun b o q n hb hx => ?_, un.free, fun b o q _ => there b o q, un.tups, un.frzs, un.tbls⟩, hok.stays fun b u o q1 q2 => kp b o (p1 b u o q1 q2), new, xfree, B, a0, f', fun b u o q1 q2 => ?_, fun b o o' q hb q2 => ?_⟩
  · obtain ⟨s1, q1⟩ := un.slot b o q n hb hx
    obtain ⟨_, o2, q2, hd⟩ := fun_mem F hb
    rw [q1] at q2
    cases q2
    obtain ⟨s2, q3⟩ := sl b _ q1 hd
    exact ⟨s2, q3⟩
  · obtain ⟨o1, q3⟩ := obj_here (hok b u q1)
    have q4 := p1 b u o1 q1 q3
    have q5 := kp b o1 q4
    rw [q2] at q5
    cases q5
    exact q4
  · obtain ⟨o1, q1⟩ := un.there b o q (by simp)
    have q4 := p2 b o o1 q hb q1
    have q5 := kp b o1 q4
    rw [q2] at q5
    cases q5
    exact q4
/-- what a call that raises leaves: an exception of the class C -/
def CXn (P : Program) (w : World) (C : Addr) : CXT := fun outer H s E e s' => ∃ x H', e = .ref x ∧ s'.os = s.os ∧ AllBare s'.gens ∧ Fly P w C outer H s.heap x H' s'.heap ∧ E e none H'
section
variable {P : Program} {w : World} {K : PySem.W.Frag} {mg : Str → Option Value} {base : Heap} {N : List Str} {qual : Str} {scope : Scope} {f : Addr} {cd : Value} {A : Around} {outer : List Env} {s : Shared} {H : Hp} {E : XK} {C : Addr}
/-- out of the def: from the frames with its own to those behind it -/
theorem fly_out {pins : List (Addr × Obj)} {σ : St} {H1 H' : Hp} {s1 : Shared} {h h' : Heap} {x : Addr} {B : Heap} {a0 : Value} {X : Cx} (hX : X = cxOf (CXn P w C) P w K mg base N qual scope f cd A outer s H E) (I : Inv X pins σ H1 s1)
    (un : Un (frs X.stack) [] H1 H' s1.heap h) (hok : HOk P w H' h) (new : s1.heap.get? x = none) (xfree : H' x = none) (F : h.FunFrames B X.stack)
    (p1 : ∀ b u o, H' b = some u → h.get? b = some o → B.get? b = some o) (p2 : ∀ b o o', s1.heap.get? b = some o → b ∉ frs X.stack → h.get? b = some o' → B.get? b = some o')
    (f' : Heap.FlyingW B outer x (.ref C) a0 h') (sl : h.UpToSlots h') : Fly P w C outer H s.heap x H' h' := by
  subst hX
  have kp : ∀ b o, B.get? b = some o → h'.get? b = some o := f'.1
  have hloc : ∀ b o, s.heap.get? b = some o → b ≠ s.heap.objs.size := fun b o q => Nat.ne_of_lt (Heap.lt_size q)
  have hfr : ∀ b o, s.heap.get? b = some o → b ∉ frs outer → b ∉ frs (envOfC qual scope s.heap.objs.size f cd :: outer) := fun b o q hb z => by
    have z' : b ∈ s.heap.objs.size :: frs outer := z
    rcases List.mem_cons.mp z' with e | z2
    · exact hloc b o q e
    · exact hb z2
  have hfr2 : ∀ b, b ∈ frs outer → b ∈ frs (envOfC qual scope s.heap.objs.size f cd :: outer) := fun b hb => List.mem_cons_of_mem (a := b) s.heap.objs.size (show b ∈ frs outer from hb)
  have u0 : Un (frs outer) [] H H1 s.heap s1.heap := I.base
  have there : ∀ b o, s.heap.get? b = some o → ∃ o', h'.get? b = some o' := fun b o q => by
    obtain ⟨o1, q1⟩ := u0.there b o q (by simp)
    obtain ⟨o2, q2⟩ := un.there b o1 q1 (by simp)
    by_cases hb : b ∈ frs outer
    · obtain ⟨_, o3, q3, hd⟩ := fun_mem F (hfr2 b hb)
      obtain ⟨sl2, q4⟩ := sl b o3 q3 hd
      exact ⟨_, q4⟩
    · exact ⟨o2, kp b o2 (p2 b o1 o2 q1 (hfr b o q hb) q2)⟩
  have keep2 : ∀ b o o', s.heap.get? b = some o → b ∉ frs outer → h.get? b = some o' → B.get? b = some o' := fun b o o' q hb q2 => by
    obtain ⟨o1, q1⟩ := u0.there b o q (by simp)
    exact p2 b o1 o' q1 (hfr b o q hb) q2
  refine ⟨⟨fun b o q n hb hx => ?_, fun b o q n hb hx => ?_, fun b o q n hx => ?_, fun b o q _ => there b o q, fun b xs q => un.tups b xs (u0.tups b xs q), fun b o u q => un.frzs b o u (u0.frzs b o u q), fun b ps q => ?_⟩, hok.stays fun b u o q1 q2 => kp b o (p1 b u o q1 q2), ?_, xfree, B, a0, f', fun b u o q1 q2 => ?_, fun b o o' q hb q2 => ?_⟩
  · have q1 := u0.keep b o q n hb hx
    have q2 := un.keep b o q1 (u0.free b o q n hx) (hfr b o q hb) (by simp)
    exact kp b o (keep2 b o o q hb q2)
  · obtain ⟨s2, q1⟩ := u0.slot b o q n hb hx
    obtain ⟨s3, q2⟩ := un.slot b _ q1 (u0.free b o q n hx) (hfr2 b hb) (by simp)
    obtain ⟨_, o3, q3, hd⟩ := fun_mem F (hfr2 b hb)
    rw [q2] at q3
    cases q3
    obtain ⟨s4, q4⟩ := sl b _ q2 hd
    exact ⟨s4, q4⟩
  · obtain ⟨o1, q1⟩ := u0.there b o q hx
    exact un.free b o1 q1 (u0.free b o q n hx) (by simp)
  · obtain ⟨m1, q1⟩ := u0.tbls b ps q
    obtain ⟨m2, q2⟩ := un.tbls b _ q1
    exact ⟨m1 ++ m2, by rw [q2, Array.append_assoc]⟩
  · cases e : s.heap.get? x with
    | none => rfl
    | some o =>
      obtain ⟨o1, q1⟩ := u0.there x o e (by simp)
      rw [new] at q1
      cases q1
  · obtain ⟨o1, q3⟩ := obj_here (hok b u q1)
    have q4 := p1 b u o1 q1 q3
    have q5 := kp b o1 q4
    rw [q2] at q5
    cases q5
    exact q4
  · obtain ⟨o1, q1⟩ := u0.there b o q (by simp)
    obtain ⟨o2, q3⟩ := un.there b o1 q1 (by simp)
    have q4 := keep2 b o o2 q hb q3
    have q5 := kp b o2 q4
    rw [q2] at q5
    cases q5
    exact q4
/-- a callee's exception leaves this def -/
theorem pass_fly : Passes (CXn P w C) (cxOf (CXn P w C) P w K mg base N qual scope f cd A outer s H E) E := by
  intro pins σ H1 s1 e s' I hx
  obtain ⟨x, H', rfl, hos, hb, hf, hE⟩ := hx
  obtain ⟨un, hok, new, xfree, B, a0, fl, p1, p2⟩ := hf
  refine wpAny_leaves_onW I.ok.frames rfl fl fun h' f' sl => ?_
  exact ⟨x, H', rfl, hos.trans I.os, hb, fly_out rfl I un hok new xfree fl.2.2.1 p1 p2 f' sl, hE⟩
end
/-! ### f"..{n}..", raise of an own class -/
def fit3 (a b : Str) (n : Int) : Prop := n.natAbs.log2 < 1920 ∧ (Str.empty ++ a ++ Str.ofString (toString n)).length ≤ sizeLine ∧ (Str.empty ++ a ++ Str.ofString (toString n) ++ b).length ≤ sizeLine
def tF3 (a b : Str) (te : TE) : TE := fun σ H Q => te σ H fun v H1 => ∃ n, v = .int n ∧ fit3 a b n ∧ ∀ z, Q (.str z) H1
theorem pe_f3 {X : Cx} {a b : Str} {e : Expr} {te : TE} {i j : Nat} {p1 p2 p3 pos : Pos} (he : PE X e te) (ha : (Str.empty ++ a).length ≤ sizeLine) : PE X (.JoinedStr [.Constant (.str a) i p1, .FormattedValue e (-1) none p2, .Constant (.str b) j p3] pos) (tF3 a b te) := by
  intro pins s σ H Q I h
  refine JoinedStr_many (joinParts_cons (Calls.Constant_str ?_))
  have I1 : Inv X pins σ H { s with toks := s.toks + 1 } := I.tok _
  refine ⟨ha, joinParts_cons (FormattedValue_plain (thn (he pins _ σ H _ I1 h) fun v s1 ⟨x, H1, J1, r1, n, ex, hf, q⟩ => ?_))⟩
  subst ex
  obtain ⟨t, rfl⟩ := r1
  refine formatField_int_small hf.1 ⟨hf.2.1, joinParts_cons (Calls.Constant_str ⟨hf.2.2, joinParts_nil ?_ hf.2.2⟩)⟩
  exact ⟨.str (Str.empty ++ a ++ Str.ofString (toString n) ++ b), H1, J1.tok _, ⟨_, rfl⟩, q _⟩
/-- an own exception class below ValueError, as K has it -/
structure ExcC (K : PySem.W.Frag) (C : Addr) : Prop where
  is : PySem.W.excIn K C [.type "ValueError", .type "Exception", .type "BaseException", .type "object"] "ValueError.__new__" = true
theorem ExcC.facts {K : PySem.W.Frag} {C : Addr} (c : ExcC K C) : ∃ bm N nm q bs hdct sn sub ab col dd k0 k1 k2 k3 k5, K.lookup C = some (excClassObj nm q C N bs bm hdct sn sub ab col dd k0 k1 k2 k3 k5 "ValueError.__new__") ∧
    PySem.W.tailIn K [.type "ValueError", .type "Exception", .type "BaseException", .type "object"] bm = true ∧ PySem.W.nsOkIn K N = true ∧ PySem.W.nsIn K N "__init__" = some none := by
  have q := c.is
  unfold PySem.W.excIn at q
  split at q
  · rename_i dd cd sl hlook
    split at q
    · rename_i C1 tl a0 a1 a2 a3 id a5 h1 h2
      rw [Bool.and_eq_true, Bool.and_eq_true, Bool.and_eq_true, Bool.and_eq_true, Bool.and_eq_true] at q
      obtain ⟨⟨⟨⟨⟨z1, z2⟩, z3⟩, z4⟩, z5⟩, z6⟩ := q
      have y1 := eq_of_beq z1
      have y2 := eq_of_beq z2
      have y6 := eq_of_beq z6
      have y3 : cd.hasDel = false := by cases e : cd.hasDel with | false => rfl | true => rw [e] at z3; cases z3
      clear z1 z2 z3 z6
      subst y1 y2
      cases cd
      dsimp only at h1 y3 z4 z5 y6
      subst h1 y3
      cases sl
      dsimp only at h2
      subst h2
      exact ⟨_, _, _, _, _, _, _, _, _, _, _, _, _, _, _, _, hlook, z4, z5, y6⟩
    · cases q
  · cases q
theorem ns_same {K : PySem.W.Frag} {h h2 : Heap} {N : Addr} {m : Str → Option Value} (X : K.In h) (X2 : K.In h2) (e : PySem.W.nsOkIn K N = true) (n : h.Ns N m) : h2.Ns N m := by
  unfold PySem.W.nsOkIn at e
  split at e
  · rename_i hl
    obtain ⟨o, es, ep, ho, r⟩ := n
    have := X _ _ hl
    rw [ho] at this
    cases this
    exact ⟨_, es, ep, X2 _ _ hl, r⟩
  · cases e
def tRaise (te : TA) (E : XK) : TS := fun _ σ H => te σ H fun vs H1 => vs.length ≤ sizeLine ∧ ∀ e, E e none H1
section
variable {P : Program} {w : World} {K : PySem.W.Frag} {mg : Str → Option Value} {base : Heap} {N : List Str} {qual : Str} {scope : Scope} {f : Addr} {cd : Value} {A : Around} {outer : List Env} {s : Shared} {H : Hp} {E : XK} {C : Addr}
theorem ps_raise {X : Cx} (hX : X = cxOf (CXn P w C) P w K mg base N qual scope f cd A outer s H E) {x : Str} {arg : Expr} {t : TA} {np cpos pos : Pos} (hcalm : X.calm = true) (c : ExcC K C) (hg : Gl X x) (hm : mg x = some (.ref C)) (ha : PA X [arg] t) (hd : (x == ("__debug__" : Str)) = false := by decide)
    (hs : backTo cpos (starEach [arg] X.env) = (false, eval arg X.env) :: backTo cpos (starEach [] X.env) := by rfl) (hplain : (backTo cpos (starEach [arg] X.env)).any (·.1) = false := by rfl) :
    PS X (.Raise (some (.Call (.Name x np) [arg] [] cpos)) none pos) (tRaise t E) := by
  intro pins s1 σ H1 D I h
  obtain ⟨bm, N, nm, q, bs, hdct, sn, sub, ab, col, dd, k0, k1, k2, k3, k5, hl, ht, hok, hni⟩ := c.facts
  have hK : X.K = K := by subst hX; rfl
  have kin := I.kIn
  rw [hK] at kin
  have hns : s1.heap.Ns N (s1.heap.nsMap N) := .of_isNs (PySem.W.isNs_of_in kin hok)
  have hbase : bm.contains (.type "BaseException") = true := (PySem.W.tail_of_in kin ht).hasType (by decide +kernel)
  refine wpAny_Raise_call_subT (C := C) (N := N) (nm := nm) (q := q) (bs := bs) (bm := bm) (hdct := hdct) (sn := sn) (sub := sub) (ab := ab) (col := col) (dd := dd) (k0 := k0) (k1 := k1) (k2 := k2) (k3 := k3) (k5 := k5) PySem.F.excBase_ValueError (mN := s1.heap.nsMap N) hbase (I.ok.hd hcalm) hplain (PySem.W.nsMap_none_of_in kin hok hni) ?_
  refine ld_glob I hg (by subst hX; exact hm) ⟨rfl, ?_⟩ hd
  rw [hs]
  refine Calls.evalArgs_plain ?_
  rw [← hs]
  refine thn (ha cpos pins s1 σ H1 _ I h) fun us s2 ⟨vs, H2, I2, r2, hlen, hE⟩ => ?_
  have kin2 := I2.kIn
  rw [hK] at kin2
  refine ⟨rfl, by rw [r_len r2]; exact hlen, kin2 _ _ hl, ns_same kin kin2 hok hns, PySem.W.tail_of_in kin2 ht, fun h' e hmade => ?_⟩
  have hfree : H2 e = none := by
    cases q : H2 e with
    | none => rfl
    | some o =>
      obtain ⟨ob, q2⟩ := obj_here (I2.hok e o q)
      rw [hmade.new] at q2
      cases q2
  have hF : s2.heap.FunFrames (PySem.W.hideAll s2.heap (frs X.stack)) X.stack := PySem.W.funFrames_hide I2.stack fun env hm a ha => List.mem_filterMap.mpr ⟨env, hm, ha⟩
  have hst : (PySem.W.hideAll s2.heap (frs X.stack)).StaysIn s2.heap := fun b o q => PySem.W.of_hideAll _ q
  have e1 : X.stack = X.env :: outer := by subst hX; rfl
  have e2 : X.env.frame = some s.heap.objs.size := by subst hX; rfl
  have e3 : X.A.frames = some (X.env :: outer) := by rw [← e1]; exact I2.ok.frames
  have goal : wpAny (model P w) X.A (leaving X.env (.ref e)) (fun _ s'' => CXn P w C outer H s E (.ref e) s'') (fun e' s'' => CXn P w C outer H s E e' s'') { s2 with heap := h' } := by
    refine wpAny_leaves_madeW (base := PySem.W.hideAll s2.heap (frs X.stack)) e3 e2 hst (by rw [← e1]; exact hF) hmade fun h'' t fl tup hnew sl => ?_
    refine ⟨e, H2, rfl, ?_, I2.bare, fly_out hX I2 (h := h') (Un.kept hmade.keeps) (by subst hX; exact I2.hok.kept hmade.keeps) hmade.new hfree (hF.of_keeps fun b o hb _ => ⟨o, hmade.keeps b o hb, rfl⟩) (fun b u o q1 q2 => ?_) (fun b o o' q1 q2 q3 => ?_) fl sl, hE _⟩
    · have := I2.os
      subst hX
      exact this
    · obtain ⟨o1, q3⟩ := obj_here (I2.hok b u q1)
      have q4 := hmade.keeps b o1 q3
      rw [q2] at q4
      cases q4
      refine PySem.W.hideAll_get _ q3 fun z => ?_
      rw [I2.stkFree b z] at q1
      cases q1
    · have q4 := hmade.keeps b o q1
      rw [q3] at q4
      cases q4
      exact PySem.W.hideAll_get _ q1 q2
  subst hX
  exact goal
end
end L2

namespace L2
open PySem PySem.Spec PyProof.Rows Fb
section
variable {X : Cx} {P : Program} {w : World} {C : Addr} {pins : List (Addr × Obj)} {σ : St} {H H' : Hp} {s s' : Shared} {x : Addr} {Ex : XK} {e : Value}
/-- behind what has flown so far the def's own state stands -/
theorem Fly.inv (I : Inv X pins σ H s) (hP : X.prog = P) (hw : X.w = w) (ho : s'.os = s.os) (hb : AllBare s'.gens) (f : Fly P w C X.stack H s.heap x H' s'.heap) : Inv X pins σ H' s' := by
  subst hP hw
  exact I.call' (ch := []) ho f.un f.hok hb fun b hb => absurd hb (by simp)
theorem Fly.again {h' : Heap} {B : Heap} {a0 : Value} {l : List Env} {h0 h : Heap} (f : Fly P w C l H h0 x H' h) (p1 : ∀ b u o, H' b = some u → h.get? b = some o → B.get? b = some o) (p2 : ∀ b o o', h0.get? b = some o → b ∉ frs l → h.get? b = some o' → B.get? b = some o') (F : h.FunFrames B l)
    (f' : Heap.FlyingW B l x (.ref C) a0 h') (sl : h.UpToSlots h') : Fly P w C l H h0 x H' h' := Fly.move f.un f.hok f.new f.xfree F p1 p2 f' sl
theorem caught {hs : List ExceptHandler} {Q : Flow → Shared → Prop} {E : Value → Shared → Prop} (I : Inv X pins σ H s) (hst : X.stack = X.env :: X.outer) (hf : X.env.frame = some X.env.locals) (hx : CXn P w C X.stack H s Ex e s')
    (k : ∀ x H' s5, Ex (.ref x) none H' → s5.os = s.os → AllBare s5.gens → Fly P w C X.stack H s.heap x H' s5.heap → wpAny (model X.prog X.w) X.A (handleBy (.ref x) X.env hs) Q E s5) :
    wpAny (model X.prog X.w) X.A (noteFrame e X.env) (fun _ s₂ => wpAny (model X.prog X.w) X.A (setFlight e none) (fun _ s₃ => wpAny (model X.prog X.w) X.A (handleBy e X.env hs) Q E s₃) E s₂) E s' := by
  obtain ⟨x, H', rfl, ho, hb, f, hE⟩ := hx
  obtain ⟨B, a0, fl, p1, p2⟩ := f.fly
  have fr : X.A.frames = some (X.env :: X.outer) := by rw [← hst]; exact I.ok.frames
  rw [hst] at fl
  refine wpAny_looks_onW fr hf fl fun h4 held s4 => wpAny_landsW held fun h5 f5 s5 => ?_
  rw [← hst] at f5 fl
  exact k x H' _ hE ho hb (f.again p1 p2 fl.2.2.1 f5 (s4.trans s5))
/-- the class of what flies, as its object says -/
theorem Fly.obj {l : List Env} {h0 h : Heap} (f : Fly P w C l H h0 x H' h) : ∃ ob, h.get? x = some ob ∧ ob.cls = .ref C := by
  obtain ⟨B, a0, fl, _⟩ := f.fly
  exact fl.there
end
/-- the contexts within a try: the body's, with the state ahead pinned; the handler's -/
def Cx.tried (X : Cx) (pins : List (Addr × Obj)) (xe : Value → Shared → Prop) : Cx := { X with pn := X.pn ++ pins, xe := xe }
def Cx.marked (X : Cx) (v : Value) : Cx := { X with A := X.A.mark (some v), calm := false, xe := fun _ _ => False }
section
variable {X : Cx} {pins pl : List (Addr × Obj)} {σ : St} {H : Hp} {s : Shared} {xe : Value → Shared → Prop} {v : Value}
theorem Inv.tried (I : Inv X pins σ H s) : Inv (X.tried pins xe) [] σ H s :=
  ⟨⟨I.ok.mod, I.ok.kind, I.ok.glob, I.ok.blt, I.ok.above, I.ok.inj, I.ok.has, I.ok.cab, I.ok.hd, I.ok.frames, I.ok.stk, I.ok.exf, I.ok.bs, I.ok.bsz, I.ok.noex, I.ok.exfs, I.ok.funs, I.ok.frf⟩, I.os, I.bare, I.base, I.loc, I.cell, I.free, I.freeC, fun p hp => I.pin p (by have hp2 : p ∈ (X.pn ++ pins) ++ [] := hp; simpa using hp2), I.hok, I.len⟩
theorem Inv.untried (I : Inv (X.tried pins xe) pl σ H s) : Inv X pins σ H s :=
  ⟨⟨I.ok.mod, I.ok.kind, I.ok.glob, I.ok.blt, I.ok.above, I.ok.inj, I.ok.has, I.ok.cab, I.ok.hd, I.ok.frames, I.ok.stk, I.ok.exf, I.ok.bs, I.ok.bsz, I.ok.noex, I.ok.exfs, I.ok.funs, I.ok.frf⟩, I.os, I.bare, I.base, I.loc, I.cell, I.free, I.freeC, fun p hp => I.pin p (List.mem_append_left _ hp), I.hok, I.len⟩
theorem Inv.marked (I : Inv X pins σ H s) : Inv (X.marked v) pins σ H s :=
  ⟨⟨I.ok.mod, I.ok.kind, I.ok.glob, I.ok.blt, I.ok.above, I.ok.inj, I.ok.has, I.ok.cab, fun z => (by cases z), I.ok.frames, I.ok.stk, I.ok.exf, I.ok.bs, I.ok.bsz, I.ok.noex, I.ok.exfs, I.ok.funs, I.ok.frf⟩, I.os, I.bare, I.base, I.loc, I.cell, I.free, I.freeC, I.pin, I.hok, I.len⟩
theorem Inv.unmarked (hd : X.calm = true → X.A.handled = none) (I : Inv (X.marked v) pins σ H s) : Inv X pins σ H s :=
  ⟨⟨I.ok.mod, I.ok.kind, I.ok.glob, I.ok.blt, I.ok.above, I.ok.inj, I.ok.has, I.ok.cab, hd, I.ok.frames, I.ok.stk, I.ok.exf, I.ok.bs, I.ok.bsz, I.ok.noex, I.ok.exfs, I.ok.funs, I.ok.frf⟩, I.os, I.bare, I.base, I.loc, I.cell, I.free, I.freeC, I.pin, I.hok, I.len⟩
end
theorem ld_globA {X : Cx} {A : Around} {E : Value → Shared → Prop} {pins : List (Addr × Obj)} {s : Shared} {σ : St} {H : Hp} {x : Str} {u : Value} {pos : Pos} {Q : Value → Shared → Prop} (I : Inv X pins σ H s) (hg : Gl X x) (hm : X.mg x = some u) (h : Q u s)
    (hd : (x == ("__debug__" : Str)) = false) : wpAny (model X.prog X.w) A (eval (.Name x pos) X.env) Q E s :=
  Calls.Name_function_global I.ok.kind hg (Calls.loadGlobal_global (by rw [I.ok.glob]; exact I.mod.glob.keeps I.bk) hm h) hd
/-! ### try .. except C: .. (no name) -/
def tTry (tb : TS) (Ex : XK) (th : TS) : TS := fun D σ H => tb D σ H ∧ ∀ e σ' H', Ex e none H' → th D σ' H'
theorem SP.untried {X : Cx} {pins pl : List (Addr × Obj)} {xe : Value → Shared → Prop} {D : Ends} {f : Flow} {s' : Shared} (h : SP (X.tried pins xe) pl D f s') : SP X pins D f s' := by
  cases f with
  | next => obtain ⟨σ', H', I, q⟩ := h; exact ⟨σ', H', I.untried, q⟩
  | brk => obtain ⟨σ', H', I, q⟩ := h; exact ⟨σ', H', I.untried, q⟩
  | cont => obtain ⟨σ', H', I, q⟩ := h; exact ⟨σ', H', I.untried, q⟩
  | ret u => obtain ⟨v, σ', H', I, r, q⟩ := h; exact ⟨v, σ', H', I.untried, r, q⟩
theorem SP.unmarked {X : Cx} {pins : List (Addr × Obj)} {v : Value} {D : Ends} {f : Flow} {s' : Shared} (hd : X.calm = true → X.A.handled = none) (h : SP (X.marked v) pins D f s') : SP X pins D f s' := by
  cases f with
  | next => obtain ⟨σ', H', I, q⟩ := h; exact ⟨σ', H', I.unmarked hd, q⟩
  | brk => obtain ⟨σ', H', I, q⟩ := h; exact ⟨σ', H', I.unmarked hd, q⟩
  | cont => obtain ⟨σ', H', I, q⟩ := h; exact ⟨σ', H', I.unmarked hd, q⟩
  | ret u => obtain ⟨v, σ', H', I, r, q⟩ := h; exact ⟨v, σ', H', I.unmarked hd, r, q⟩
section
variable {X : Cx} {P : Program} {w : World} {C : Addr} {y : Str} {np hpos pos : Pos} {body suite : List Stmt} {b0 : Stmt} {tb th : TS} {Ex : XK}
theorem ps_try (hP : X.prog = P) (hw : X.w = w) (hst : X.stack = X.env :: X.outer) (hf : X.env.frame = some X.env.locals) (c : ExcC X.K C) (hg : Gl X y) (hm : X.mg y = some (.ref C))
    (hb : ∀ pins xe, Passes (CXn P w C) (X.tried pins xe) Ex → PSs (X.tried pins xe) body tb) (hh : ∀ v, PSs (X.marked v) (b0 :: suite) th) (hd : (y == ("__debug__" : Str)) = false := by decide) :
    PS X (.Try body [.ExceptHandler (some (.Name y np)) none (b0 :: suite) hpos] [] [] pos) (tTry tb Ex th) := by
  intro pins s σ H D I ⟨h1, h2⟩
  refine wpAny_Try_except ?_
  refine wpAny_mono (hb pins _ ?_ [] s σ H D I.tried h1) (fun f s1 hs => ?_) fun _ _ z => z
  · intro pl σ2 H2 s2 e s' I2 hx
    have J2 := I2.untried
    refine caught (X := X) (σ := σ2) J2 hst hf hx fun x H' s5 hE ho hbare f5 => ?_
    have I5 : Inv X pins σ2 H' s5 := f5.inv J2 hP hw ho hbare
    refine wpAny_handleBy_cons (codeAny_handlers_test (ld_globA I5 hg hm ?_ hd)) (by intro q; cases q)
    obtain ⟨bm, N, nm, q, bs, hdct, sn, sub, ab, col, dd, k0, k1, k2, k3, k5, hl, ht, hok, hni⟩ := c.facts
    obtain ⟨ob, hob, hoc⟩ := f5.obj
    refine wpAny_excMatches_sub_self (I5.kIn _ _ hl) hob hoc ((PySem.W.tail_of_in I5.kIn ht).hasType (by decide +kernel)) (codeAny_handlers_suite ?_)
    obtain ⟨B, a0, fl, p1, p2⟩ := f5.fly
    refine lands_againW fl fun h6 f6 s6 => ?_
    have g6 := f5.again p1 p2 fl.2.2.1 f6 s6
    have I6 : Inv X pins σ2 H' { s5 with heap := h6 } := g6.inv (s' := { s5 with heap := h6 }) J2 hP hw ho hbare
    exact wpAny_mono (hh (.ref x) pins _ σ2 H' D I6.marked (h2 _ σ2 H' hE)) (fun f s7 h7 => h7.unmarked I.ok.hd) fun _ _ z => z.elim
  · cases f with
    | next => exact wpAny_execs_nil hs.untried
    | brk => exact hs.untried
    | cont => exact hs.untried
    | ret u => exact hs.untried
end
/-! ### except .. as e, whose suite returns -/
def Cx.held (X : Cx) (x : Addr) (ob : Obj) : Cx := { X with A := X.A.mark (some (.ref x)), calm := false, pn := X.pn ++ [(x, ob)], xe := fun _ _ => False }
section
variable {X : Cx} {pins : List (Addr × Obj)} {σ : St} {H : Hp} {s : Shared} {x : Addr} {ob : Obj}
theorem Inv.held (I : Inv X pins σ H s) (h1 : s.heap.get? x = some ob) (h2 : H x = none) (h3 : x ≠ X.env.locals) (h4 : x ∉ X.fs) (h5 : ∀ v, ob.data ≠ .cell v) : Inv (X.held x ob) pins σ H s :=
  ⟨⟨I.ok.mod, I.ok.kind, I.ok.glob, I.ok.blt, I.ok.above, I.ok.inj, I.ok.has, I.ok.cab, fun z => (by cases z), I.ok.frames, I.ok.stk, I.ok.exf, I.ok.bs, I.ok.bsz, I.ok.noex, I.ok.exfs, I.ok.funs, I.ok.frf⟩, I.os, I.bare, I.base, I.loc, I.cell, I.free, I.freeC, fun p hp => by
    have hp2 : p ∈ (X.pn ++ [(x, ob)]) ++ pins := hp
    rcases List.mem_append.mp hp2 with z | z
    · rcases List.mem_append.mp z with z | z
      · exact I.pin p (List.mem_append_left _ z)
      · rw [List.mem_singleton.mp z]; exact ⟨h1, h2, h3, h4, h5⟩
    · exact I.pin p (List.mem_append_right _ z), I.hok, I.len⟩
theorem Inv.unheld (hd : X.calm = true → X.A.handled = none) (I : Inv (X.held x ob) pins σ H s) : Inv X pins σ H s :=
  ⟨⟨I.ok.mod, I.ok.kind, I.ok.glob, I.ok.blt, I.ok.above, I.ok.inj, I.ok.has, I.ok.cab, hd, I.ok.frames, I.ok.stk, I.ok.exf, I.ok.bs, I.ok.bsz, I.ok.noex, I.ok.exfs, I.ok.funs, I.ok.frf⟩, I.os, I.bare, I.base, I.loc, I.cell, I.free, I.freeC, fun p hp => I.pin p (by
    show p ∈ (X.pn ++ [(x, ob)]) ++ pins
    rcases List.mem_append.mp hp with z | z
    · exact List.mem_append_left _ (List.mem_append_left _ z)
    · exact List.mem_append_right _ z), I.hok, I.len⟩
/-- the local names are gone -/
theorem Inv.bareLoc {h' : Heap} {m : Str → Option Value} (I : Inv X pins σ H s) (hn : h'.Ns X.env.locals m) (hs : Heap.SameBut X.env.locals s.heap h') : Inv X pins (List.replicate X.N.length none) H { s with heap := h' } := by
  have lne : ∀ b u, H b = some u → b ≠ X.env.locals := fun b u q z => by rw [z, I.free] at q; cases q
  have old : ∀ b o, X.s₀.heap.get? b = some o → b ≠ X.env.locals := fun b o q => Nat.ne_of_lt (Nat.lt_of_lt_of_le (Heap.lt_size q) I.ok.above)
  refine ⟨I.ok, I.os, I.bare, ⟨fun b o q n hb hx => (hs.2 b (old b o q)).trans (I.base.keep b o q n hb hx), fun b o q n hb hx => ?_, I.base.free, fun b o q hx => ?_, I.base.tups, I.base.frzs, I.base.tbls⟩, ⟨m, hn, fun i y v hi hv _ => ?_⟩, fun y c hc => ?_, I.free, I.freeC, fun p hp => ?_, I.hok.stays fun b u o q1 q2 => (hs.2 b (lne b u q1)).trans q2, by simp⟩
  · obtain ⟨sl, q1⟩ := I.base.slot b o q n hb hx
    exact ⟨sl, (hs.2 b (old b o q)).trans q1⟩
  · obtain ⟨o', q1⟩ := I.base.there b o q hx
    exact ⟨o', (hs.2 b (old b o q)).trans q1⟩
  · rw [List.getElem?_replicate] at hv
    split at hv
    · cases hv
    · cases hv
  · obtain ⟨v, ⟨o, q1, q2⟩⟩ := I.cell y c hc
    refine ⟨v, o, (hs.2 c ?_).trans q1, q2⟩
    intro z
    obtain ⟨m0, ⟨ol, es, ep, hol, hdl, _⟩, _⟩ := I.loc
    rw [z, hol] at q1
    cases q1
    rw [hdl] at q2
    cases q2
  · obtain ⟨q1, q2, q3, q4⟩ := I.pin p hp
    exact ⟨(hs.2 _ q3).trans q1, q2, q3, q4⟩
end
/-- the exception's class has the written one above it -/
structure ExcSub (K : PySem.W.Frag) (C D : Addr) : Prop where
  c : ExcC K C
  d : ExcC K D
  sub : PySem.W.mroIn K C (.ref D) = some true
theorem ExcSub.has {K : PySem.W.Frag} {C D : Addr} (e : ExcSub K C D) {bm bs sub : List Value} {N : Addr} {nm q : Str} {hdct ab : Bool} {sn : List Str} {col : Option Bool} {dd : Option Addr} {k0 k1 k2 k3 k5 : Option Value}
    (hl : K.lookup C = some (excClassObj nm q C N bs bm hdct sn sub ab col dd k0 k1 k2 k3 k5 "ValueError.__new__")) : (Value.ref C :: bm).contains (.ref D) = true := by
  have h := e.sub
  unfold PySem.W.mroIn PySem.W.clsIn at h
  rw [hl] at h
  exact Option.some.inj h
theorem match_above {M : Model} {A : Around} {E : Value → Shared → Prop} {K : PySem.W.Frag} {C D e : Addr} {oe : Obj} {s : Shared} {Q : Bool → Shared → Prop} (c : ExcSub K C D) (X : K.In s.heap) (he : s.heap.get? e = some oe) (hc : oe.cls = .ref C) (hq : Q true s) : wpAny M A (excMatches (.ref e) (.ref D)) Q E s := by
  obtain ⟨bm, N, nm, q, bs, hdct, sn, sub, ab, col, dd, k0, k1, k2, k3, k5, hl, ht, hok, hni⟩ := c.c.facts
  obtain ⟨bm', N', nm', q', bs', hdct', sn', sub', ab', col', dd', k0', k1', k2', k3', k5', hl', ht', hok', hni'⟩ := c.d.facts
  have hD := X _ _ hl'
  have hC := X _ _ hl
  have b1 : (Value.ref D :: bm').contains (.type "BaseException") = true := by
    rw [List.contains_cons, (PySem.W.tail_of_in X ht').hasType (b := true) (by decide +kernel), Bool.or_true]
  have b2 := c.has hl
  have f := tc_notTuple
  obtain ⟨hp, g, d, t, os⟩ := s
  unfold excMatches
  repeat (first
    | (with_reducible refine wpAny_loadPart_at he ?_
       rw [hc])
    | with_reducible refine wpAny_loadPart_at hD ?_
    | (with_reducible refine wpAny_isSubtype_exc hD ?_
       rw [b1])
    | (with_reducible refine wpAny_isSubtype_exc hC ?_
       rw [b2])
    | wp_step)
  exact hq
def tTryAs (i : Nat) (tb : TS) (Ex : XK) (th : Addr → TS) : TS := fun D σ H => tb D σ H ∧ ∀ (x : Addr) (σ' : St) (H' : Hp), i < σ'.length → Ex (.ref x) none H' → th x { nx := fun _ _ => False, rt := D.rt } (σ'.set i (some (.ref x))) H'
section
variable {X : Cx} {P : Program} {w : World} {C F : Addr} {y n : Str} {i : Nat} {np hpos pos : Pos} {body suite : List Stmt} {b0 : Stmt} {tb : TS} {th : Addr → TS} {Ex : XK}
theorem ps_tryAs (hP : X.prog = P) (hw : X.w = w) (hst : X.stack = X.env :: X.outer) (hf : X.env.frame = some X.env.locals) (c : ExcSub X.K C F) (hg : Gl X y) (hm : X.mg y = some (.ref F)) (nd : X.N.Nodup) (hi : X.N[i]? = some n) (hlo : X.env.scope.names.lookup n = some .local) (hko : X.env.kindOf n = some .local)
    (hb : ∀ pins xe, Passes (CXn P w C) (X.tried pins xe) Ex → PSs (X.tried pins xe) body tb) (hh : ∀ x ob, ob.cls = .ref C → PSs (X.held x ob) (b0 :: suite) (th x)) (hd : (y == ("__debug__" : Str)) = false := by decide) :
    PS X (.Try body [.ExceptHandler (some (.Name y np)) (some n) (b0 :: suite) hpos] [] [] pos) (tTryAs i tb Ex th) := by
  intro pins s σ H D I ⟨h1, h2⟩
  refine wpAny_Try_except ?_
  refine wpAny_mono (hb pins _ ?_ [] s σ H D I.tried h1) (fun f s1 hs => ?_) fun _ _ z => z
  · intro pl σ2 H2 s2 e s' I2 hx
    have J2 := I2.untried
    refine caught (X := X) (σ := σ2) J2 hst hf hx fun x H' s5 hE ho hbare f5 => ?_
    have I5 : Inv X pins σ2 H' s5 := f5.inv J2 hP hw ho hbare
    refine wpAny_handleBy_cons (codeAny_handlers_test (ld_globA I5 hg hm ?_ hd)) (by intro q; cases q)
    obtain ⟨ob5, hob5, hoc5⟩ := f5.obj
    refine match_above c I5.kIn hob5 hoc5 (codeAny_handlers_suite_as ?_)
    obtain ⟨B, a0, fl, p1, p2⟩ := f5.fly
    refine lands_againW fl fun h6 f6 s6 => ?_
    have g6 := f5.again p1 p2 fl.2.2.1 f6 s6
    have I6 : Inv X pins σ2 H' { s5 with heap := h6 } := g6.inv (s' := { s5 with heap := h6 }) J2 hP hw ho hbare
    obtain ⟨ob, vs, hob, hoc, hod, _⟩ := f6.first
    have ne : ∀ b o, s2.heap.get? b = some o → x ≠ b := fun b o q z => by
      have := f5.new
      rw [z, q] at this
      cases this
    obtain ⟨m2, ⟨ol, _, _, hol, _⟩, _⟩ := J2.loc
    have I7 : Inv (X.held x ob) pins σ2 H' { s5 with heap := h6 } := I6.held hob f5.xfree (ne _ _ hol) (fun z => by
      obtain ⟨_, o, q, _⟩ := fun_mem J2.stack (b := x) (by rw [hst]; show x ∈ frs (X.env :: X.outer); unfold frs; rw [List.filterMap_cons, hf]; exact List.mem_cons_of_mem _ z)
      exact ne _ _ q rfl) (fun v z => by rw [hod] at z; cases z)
    refine store_ok (X := X.held x ob) (v := .ref x) I7 nd hi (Or.inl hlo) rfl (fun s8 I8 => ?_) (Or.inr hlo)
    refine wpAny_mono (hh x ob hoc pins s8 _ H' _ I8 (h2 x σ2 H' (by rw [J2.len]; exact (List.getElem?_eq_some_iff.mp hi).1) hE)) (fun f s9 h9 => ?_) fun _ _ z => z.elim
    cases f with
    | next => obtain ⟨_, _, _, z⟩ := h9; exact z.elim
    | brk => obtain ⟨_, _, _, z⟩ := h9; exact z.elim
    | cont => obtain ⟨_, _, _, z⟩ := h9; exact z.elim
    | ret u =>
      obtain ⟨v, σ9, H9, I9, r9, q9⟩ := h9
      have J9 := I9.unheld I.ok.hd
      refine wpAny_bind (wpAny_bindName (store_ok (v := .non) J9 nd hi (Or.inl hlo) rfl (fun s10 I10 => ?_) (Or.inr hlo)))
      obtain ⟨m, hn, hm'⟩ := id I10.loc
      have hlen : i < σ9.length := by rw [J9.len]; exact (List.getElem?_eq_some_iff.mp hi).1
      obtain ⟨u2, _, hlook⟩ := hm' i n .non hi (by rw [List.getElem?_set_self hlen]) (Or.inl hlo)
      have hval : m n = some u2 := by
        rcases hlook with ⟨_, q⟩ | ⟨q, _⟩
        · exact q
        · rw [hko] at q
          rcases q with q | q <;> cases q
      refine wpAny_onRaise (wpAny_unbindName_local hko hn hval (by rw [I.ok.kind]; rfl) fun h11 u3 hn3 hs3 => ?_)
      exact ⟨v, _, H9, I10.bareLoc hn3 hs3, r9, q9⟩
  · cases f with
    | next => exact wpAny_execs_nil hs.untried
    | brk => exact hs.untried
    | cont => exact hs.untried
    | ret u => exact hs.untried
end
end L2

namespace L2
open PySem PySem.Spec PyProof.Rows Fb PySem.W
/-! ### xs.insert(k, y) -/
def rInsert : V → List V → Hp → VK → Prop := fun x vs H Q => ∃ (l : Addr) (xs : List V) (k : Nat) (y : V), x = .ref l ∧ vs = [.int (k : Int), y] ∧ H l = some (.lst xs) ∧ k ≤ xs.length ∧ xs.length < 64 ∧ Q .non (upd H l (.lst (xs.take k ++ y :: xs.drop k)))
theorem ins_arr (its : List Value) (k : Nat) (y : Value) (h : k ≤ its.length) : ((its.toArray.extract 0 k).push y ++ its.toArray.extract k) = (its.take k ++ y :: its.drop k).toArray := by
  apply Array.toList_inj.mp
  simp
  rw [List.take_of_length_le (by simp)]
theorem mt_insert {X : Cx} : MtM X "list.insert" rInsert := by
  intro pins s σ H x vs v us Q I rx rv h
  obtain ⟨l, xs, k, y, rfl, rfl, hH, hk, h64, q⟩ := h
  cases rx
  obtain ⟨uk, uy, rfl, rk, ry⟩ := rv.two
  obtain ⟨t, rfl⟩ := rk
  obtain ⟨z, its, n, r, hl, e⟩ := I.lstM hH
  have hsz : its.toArray.size ≤ sizeLine := by rw [List.size_toArray]; omega
  have hfit : ¬ (!Builtin.List.listFitsIndex (k : Int)) = true := by
    have : Builtin.List.listFitsIndex (k : Int) = true := by
      unfold Builtin.List.listFitsIndex
      rw [Bool.and_eq_true]
      exact ⟨decide_eq_true (by omega), decide_eq_true (by omega)⟩
    rw [this]
    intro z
    cases z
  obtain ⟨ki, hki⟩ : ∃ ki : Int, ki = (k : Int) := ⟨_, rfl⟩
  rw [← hki] at hfit ⊢
  have M := PySem.AutoListH.list_insert_list_int_val_1 l its.toArray n ki t uy hfit hsz
  refine call_meets PySem.F.slot_list_insert ⟨_, e, rfl⟩ PySem.F.entry_list_insert (PySem.F.args_list_insert_3 _ _ _) M ⟨e, ?_⟩
  refine ⟨.non, _, I.lset (its' := its.take k ++ uy :: its.drop k) hH e ?_ ((r.take k).append (.cons ry (r.drop k))) ?_, rfl, q⟩
  · have ek : (if ki < 0 then (ki + ((its.toArray.size : Nat) : Int)).toNat else min ki.toNat its.toArray.size) = k := by
      rw [hki, if_neg (by omega), List.size_toArray]
      omega
    dsimp only
    rw [ek]
    exact ins_arr its k uy (by omega)
  · rw [List.length_append, List.length_cons, List.length_take, List.length_drop, sizeLine_eq]
    omega
/-! ### isinstance of a caught exception -/
theorem isi_exc {K : PySem.W.Frag} {C x : Addr} {prog : Program} {w : World} {A : Around} {E : Value → Shared → Prop} {s : Shared} {Q : Value → Shared → Prop} {ob : Obj} (e : PySem.W.kitCls K (.ref C) (.type "ValueError") = some true) (X : K.In s.heap)
    (ho : s.heap.get? x = some ob) (hc : ob.cls = .ref C) (h : Q (.bool true) s) : wpAny (model prog w) A (call (.builtin "isinstance") [.ref x, .type "ValueError"]) Q E s := by
  have LT : Looks (model prog w) s.heap (typeOf (.ref x)) (.ref C) := hc ▸ (Looks.ld ho).andThen .now
  refine call_isinstance_of ?_
  obtain ⟨L1, L2', L3⟩ := PySem.W.kit_cls (M := model prog w) X e
  have LI : Looks (model prog w) s.heap (isInstance (.ref x) (.type "ValueError")) true := LT.andThen L3
  obtain ⟨h0, g, d, tt, os⟩ := s
  unfold Builtin.«isinstance.nested»
  refine wpAny_bind (LT.at ?_)
  rw [if_neg (by intro z; cases z)]
  refine wpAny_bind (L1.at ?_)
  rw [if_pos (by decide)]
  k_delta "plainIsInstance"
  refine wpAny_bind (wpAny_bind (L2'.at ?_))
  simp only [Bool.not_true, Bool.false_eq_true, if_false]
  refine wpAny_bind (LI.at ?_)
  simp only [if_true]
  exact wpAny_pure (wpAny_pure h)
theorem call_isX {X : Cx} {x C : Addr} {ob : Obj} (hc : ob.cls = .ref C) (e : PySem.W.kitCls X.K (.ref C) (.type "ValueError") = some true) : CallR (X.held x ob) (.builtin "isinstance") (fun xs H Q => xs = [.ref x, .ty "ValueError"] ∧ Q (.bl true) H) := by
  intro pins s σ H xs us Q I r h
  obtain ⟨rfl, q⟩ := h
  obtain ⟨u, c, rfl, ru, rc⟩ := vals2 r
  cases ru
  cases rc
  have p := (I.pin (x, ob) (List.mem_append_left _ (show (x, ob) ∈ X.pn ++ [(x, ob)] by simp))).1
  exact isi_exc e I.kIn p hc ⟨.bl true, H, I, rfl, q⟩
theorem pe_insert {X : Cx} {o e1 e2 : Expr} {to t1 t2 : TE} {apos cpos : Pos} (ho : PE X o to) (h1 : PE X e1 t1) (h2 : PE X e2 t2) (hs : starEach [e1, e2] X.env = (false, eval e1 X.env) :: starEach [e2] X.env := by rfl) (hs2 : starEach [e2] X.env = (false, eval e2 X.env) :: starEach [] X.env := by rfl)
    (hbase : attributeBase o "insert" X.env (eval o X.env) = eval o X.env := by rfl) (hline : (apos.endLine == cpos.line) = true := by rfl)
    (hfew : ((backTo cpos (starEach [e1, e2] X.env)).all (fun x => !x.1) && (backToKw cpos (keywordEach [] X.env)).all (fun x => x.1.isSome)
      && decide ([e1, e2].length + ([] : List Keyword).length + (if ([] : List Keyword).isEmpty then 0 else 1) < 30)) = true := by rfl) (hplain : (backTo cpos (starEach [e2] X.env)).any (·.1) = false := by rfl) :
    PE X (.Call (.Attribute o "insert" apos) [e1, e2] [] cpos) (tBM X.K "list" rInsert to (tCons t1 (tCons t2 tNil))) :=
  pe_bm PySem.F.plainAttrs_list PySem.F.slot_list_insert PySem.F.type_list_insert mt_insert ho (pa_cons h1 (pa_cons h2 pa_nil hs2) hs) hbase hfew hline hs hplain
/-! ### a def that raises, by its name -/
def FnX (P : Program) (w : World) (K : PySem.W.Frag) (mg : Str → Option Value) (base : Heap) (C : Addr) (x : Str) (k : Nat) (ps : List Str) (sp : Sp) : Prop :=
  ∃ f fd, FnOk P w K mg base (CXn P w C) k f fd ps sp ∧ mg x = some (.ref f) ∧ PySem.W.keepIn K (.ref f) = true ∧ Binds K fd ps []
theorem pe_fnX {X : Cx} {C : Addr} {x : Str} {j k : Nat} {ps : List Str} {sp : Sp} {e : Expr} {es : List Expr} {t : TA} {p pos : Pos} {E : XK} (F : FnX X.prog X.w X.K X.mg X.base C x j ps sp) (hr : Room k X.A) (hx : Passes (CXn X.prog X.w C) X E) (ha : PA X (e :: es) t) (hg : Gl X x := by rfl) (hk : j ≤ k := by decide)
    (hdb : (x == ("__debug__" : Str)) = false := by decide) (he : starEach (e :: es) X.env = (false, eval e X.env) :: starEach es X.env := by rfl) (hpl : (backTo pos (starEach es X.env)).any (·.1) = false := by rfl) : PE X (.Call (.Name x p) (e :: es) [] pos) (tCall sp [] E t) := by
  obtain ⟨f, fd, F, hm, hkp, hb⟩ := F
  exact pe_call F (hr.mono hk) hg hm hkp hb .nil hx ha hdb he hpl
end L2

namespace K6
open PySem L2 Fb PyProof.Rows
def top (i : Nat) : Stmt := PySem.Challenge.pw_finebook_k06_no_job.main.body.getD i (.Pass ⟨0, 0, 0, 0⟩)
abbrev sCheck : Stmt := top 4
abbrev sByEnd : Stmt := top 5
abbrev sEnding : Stmt := top 6
abbrev sOrder : Stmt := top 7
/-- what the text leaves to the builtins -/
structure Bare (mg : Str → Option Value) : Prop where
  e1 : mg "enumerate" = none
  e2 : mg "sorted" = none
  e3 : mg "range" = none
  e4 : mg "len" = none
  e5 : mg "isinstance" = none
  e6 : mg "list" = none
  e7 : mg "tuple" = none
  e8 : mg "int" = none
  e9 : mg "bool" = none
  e10 : mg "str" = none
  e11 : mg "reversed" = none
  e12 : mg "abs" = none
  e13 : mg "sum" = none
section
variable {P : Program} {w : World} {K : PySem.W.Frag} {mg : Str → Option Value} {base : Heap} {Ts : List Tab}
def spCheck (Ts : List Tab) : Sp := fun vs H Q _ => ∃ (a : Addr) (ts : List Addr) (js : List Job), vs = [.ref a] ∧ JobsAt H a ts js ∧ Good js ∧ ∀ H', Grow Ts H H' → Q .non H'
theorem scCheck : FnScope ["jobs", "place", "job"] ["jobs"] (defScope sCheck) := ⟨rfl, rfl, rfl, by decide +kernel, rfl, by decide +kernel, by decide +kernel⟩
theorem ok_check {f : Addr} {fd : FuncData} (F : Fun K "check_jobs" "check_jobs" sCheck f fd) (B : Bare mg) : FnOk P w K mg base CX0 1 f fd ["jobs"] (spCheck Ts) := by
  refine F.ok scCheck (fun vs H Q E h => ?_) (fun cdv A outer s H vs Q E hr h => ?_)
  · obtain ⟨a, ts, js, rfl, _⟩ := h
    rfl
  · obtain ⟨a, ts, js, rfl, J, g, k⟩ := h
    refine ⟨_, pss_one (ps_for PassesOwn.never rfl (pi_enum rfl B.e1 (pa_cons (pv 0) pa_nil)) (pg_tup rfl (pgs_cons (pg_name (i := 1) scCheck.nd rfl (Or.inl rfl)) (pgs_cons (pg_name (i := 2) scCheck.nd rfl (Or.inl rfl)) pgs_nil)))
      (pss_one (ps_if (pw_or (pt_cmpR op_lt (pe_ix ix_tup (pv 2) pe_int (fun _ _ => rfl)) pe_int (nomark _)) (pw_or1 (pt_cmpR op_lt (pe_ix ix_tup (pv 2) pe_int (fun _ _ => rfl)) pe_int (nomark _)))).pt pss_never pss_nil))), ?_⟩
    refine ⟨_, rfl, a, rfl, ⟨_, SqL.of J.lst⟩, for_enum (K := K) (a := a) (xs := ts.map V.ref) (fun i σ H2 => ∃ v1 v2, σ = [some (.ref a), v1, v2] ∧ Grow Ts H H2) ⟨none, none, rfl, Grow.refl _ _⟩ (fun i σ H2 _ ⟨_, _, _, g2⟩ => SqL.of (g2.lst J.lst)) ?_ ?_⟩
    · rintro i x p σ H2 hi ⟨v1, v2, rfl, g2⟩ hp
      obtain ⟨t, ht, rfl⟩ := map_ref_get hi
      have hlt : i < js.length := by rw [← J.len]; exact (List.getElem?_eq_some_iff.mp ht).1
      have hj := J.tup i t js[i] ht (by simp [hlt])
      have g3 : Grow Ts H (upd H2 p (.tup [.int (i : Int), .ref t])) := g2.new hp
      obtain ⟨h1, h2⟩ := g js[i] (List.getElem_mem hlt)
      refine ⟨p, _, rfl, SqT.of upd_same, rfl, _, _, rfl, _, _, rfl, rfl, ?_⟩
      refine ⟨_, rfl, t, _, _, _, rfl, rfl, SqT.of (g3.tup hj), at0 _ _, _, _, rfl, rfl, _, rfl, ?_⟩
      refine ifN (by omega) ?_
      refine ⟨_, rfl, t, _, _, _, rfl, rfl, SqT.of (g3.tup hj), at1 _ _, _, _, rfl, rfl, _, rfl, ?_⟩
      refine ifN (by omega) ?_
      exact ⟨_, _, rfl, g3⟩
    · rintro σ H2 ⟨_, _, rfl, g2⟩
      exact k H2 g2
end
end K6

namespace K6
open PySem L2 Fb PyProof.Rows
def lamOf (st : Stmt) : Expr := match defBody st with
  | [.Return (some (.Call _ _ (k :: _) _)) _] => k.value
  | _ => .Constant .none 0 ⟨0, 0, 0, 0⟩
def lamPos (st : Stmt) : Pos := (lamOf st).pos
def lamScope (st : Stmt) : Scope := match lamOf st with
  | .Lambda _ _ sc _ => sc
  | _ => defScope st
section
variable {P : Program} {w : World} {K : PySem.W.Frag} {mg : Str → Option Value} {base : Heap} {Ts : List Tab}
/-- the table of by_end -/
def tabE (P1 : Addr) : Tab := ⟨P1, lamPos sByEnd, ("by_end" : Str) ++ ".<locals>." ++ "<lambda>"⟩
def spByEnd (Ts : List Tab) (T : Tab) : Sp := fun vs H Q _ => ∃ (a l : Addr) (ts : List Addr) (js : List Job) (ps : List Nat), vs = [.ref a, .ref l] ∧ JobsAt H a ts js ∧ H l = some (.lst (ps.map IntV)) ∧ (∀ p ∈ ps, p < js.length) ∧ ps.length < 64 ∧ TabOk T H ∧
  ∀ H' D, Grow Ts H H' → H' D = some (.lst ((byEnd js ps).map IntV)) → Q (.ref D) H'
theorem scByEnd : FnScope ["jobs", "places"] ["jobs", "places"] (defScope sByEnd) := ⟨rfl, rfl, rfl, by decide +kernel, rfl, by decide +kernel, by decide +kernel⟩
theorem csByEnd : CompScope (defScope sByEnd) (lamScope sByEnd) ["jobs", "places"] ["place"] [0] :=
  ⟨rfl, rfl, by decide +kernel, by decide +kernel, by decide +kernel, by decide +kernel, by decide +kernel, by decide +kernel, by decide +kernel⟩
theorem sortedV_map (js : List Job) (ps : List Nat) : sortedV (O := ordPair) false (keyE js ps) (ps.map IntV) = (byEnd js ps).map IntV := by
  unfold sortedV byEnd PySem.W.katRev
  simp only [Bool.false_eq_true, if_false, List.length_map, List.map_map]
  refine List.map_congr_left fun i hi => ?_
  have hi' : i < ps.length := List.mem_range.mp ((sortIx_perm (O := ordPair) (keyE js ps) ps.length).mem_iff.mp hi)
  show (ps.map IntV).getD i V.non = IntV (ps.getD i 0)
  simp [hi']
theorem ok_byEnd {f c P1 : Addr} {oc : Value} {od an : Option Addr} {osl : Array (Option Value)} {kV doc pm ct : Value} (lk : K.lookup f = some ⟨oc, od, .func (PySem.W.fnOf "by_end" "by_end" (defArgs sByEnd) (defBody sByEnd) (defScope sByEnd) .none kV doc pm an (.ref c) ct), osl⟩)
    (hcd : PySem.W.codeIn K (.ref c) "by_end" = true) (B : Bare mg) (bm : BMain mg base) (C : PySem.W.CodeHd base c P1) (hTs : ∀ T' ∈ Ts, T' = tabE P1 ∨ T'.P ≠ (tabE P1).P) :
    FnOk P w K mg base CX0 2 f (PySem.W.fnOf "by_end" "by_end" (defArgs sByEnd) (defBody sByEnd) (defScope sByEnd) .none kV doc pm an (.ref c) ct) ["jobs", "places"] (spByEnd Ts (tabE P1)) := by
  refine fn_of lk hcd scByEnd (fun vs H Q E h => ?_) (fun A outer s H vs Q E hr h => ?_)
  · obtain ⟨a, l, ts, js, ps, rfl, _⟩ := h
    rfl
  · obtain ⟨a, l, ts, js, ps, rfl, J, hl, hps, h64, hT, k⟩ := h
    refine ⟨_, PSs.nox (pss_one (ps_ret (pe_sortKey domPair (T := tabE P1) (c := c) rfl B.e2 hr bm csByEnd rfl rfl rfl C rfl rfl rfl rfl rfl (fun _ _ _ _ _ => rfl) (pa_cons (pv 1) pa_nil)
      (te := tTup (tCons (tOp (rIxT K) (tOp (rIxL K) (tVar 1) (tVar 0)) (tC (.int 0))) (tCons (tVar 0) tNil)))
      (fun _ _ _ _ _ _ => pe_tup (pa_cons (pe_ix ix_tup (pe_ix ix_list (pv 1) (pv 0) (fun _ _ => rfl)) pe_int (fun _ _ => rfl)) (pa_cons (pv 0) pa_nil)))))), ?_⟩
    refine ⟨_, rfl, l, ps.map IntV, keyE js ps, rfl, SqL.of hl, by simpa using h64, hT, fun H2 hG => ⟨fun i v hv H3 s3 => ?_, fun H5 D s5 hn => ?_⟩⟩
    · obtain ⟨p, hp, rfl⟩ := map_int_get hv
      have J3 := (J.grow (hG Ts hTs)).same s3
      obtain ⟨t, ht, htt⟩ := J3.get (hps p (List.mem_of_getElem? hp))
      have ek : keyE js ps i = (endOf js p, (p : Int)) := by
        have e0 : ps.getD i 0 = p := by rw [List.getD_eq_getElem?_getD, hp]; rfl
        unfold keyE
        rw [e0]
      refine ⟨_, rfl, _, rfl, a, _, _, _, rfl, rfl, SqL.of J3.lst, ht, t, _, _, _, rfl, rfl, SqT.of htt, at0 _ _, _, rfl, by show 2 ≤ sizeLine; rw [sizeLine_eq]; decide, fun q hq => ⟨Same.new hq, q, rfl, ?_⟩⟩
      rw [ek]
      exact upd_same
    · have g : Grow Ts H H5 := (hG Ts hTs).trans (.of_same s5)
      exact k _ D (g.new hn) (upd_same.trans (congrArg (fun x => some (HO.lst x)) (sortedV_map js ps)))
end
end K6

namespace K6
open PySem L2 Fb PyProof.Rows
section
variable {P : Program} {w : World} {K : PySem.W.Frag} {mg : Str → Option Value} {base : Heap} {Ts : List Tab}
theorem endBy_snoc {js : List Job} {ps : List Nat} {t : Int} {i p : Nat} (h : ps[i]? = some p) : endBy js (ps.take (i + 1)) t = if endOf js p ≤ t then endBy js (ps.take i) t ++ [p] else endBy js (ps.take i) t := by
  have e : ps.take (i + 1) = ps.take i ++ [p] := by rw [List.take_add_one, h]; rfl
  unfold endBy
  rw [e, List.filter_append]
  by_cases hc : endOf js p ≤ t
  · rw [if_pos hc, List.filter_cons_of_pos (by simpa using hc), List.filter_nil]
  · rw [if_neg hc, List.filter_cons_of_neg (by simpa using hc), List.filter_nil, List.append_nil]
def spEnding (Ts : List Tab) : Sp := fun vs H Q _ => ∃ (a l : Addr) (ts : List Addr) (js : List Job) (ps : List Nat) (t : Int), vs = [.ref a, .ref l, .int t] ∧ JobsAt H a ts js ∧ H l = some (.lst (ps.map IntV)) ∧ (∀ p ∈ ps, p < js.length) ∧ ps.length < 64 ∧
  ∀ (H' : Hp) (D : Addr) (qs : List Nat), Grow Ts H H' → qs.Perm (endBy js ps t) → qs.Pairwise (fun x y => x ≤ y) → H' D = some (.lst (qs.map IntV)) → Q (.ref D) H'
theorem scEnding : FnScope ["jobs", "places", "tick"] ["jobs", "places", "tick"] (defScope sEnding) := ⟨rfl, rfl, rfl, by decide +kernel, rfl, by decide +kernel, by decide +kernel⟩
theorem csEnding : CompScope (defScope sEnding) (cScope (arg0 (retE (bodyAt sEnding 0)))) ["jobs", "places", "tick"] ["place"] [0, 2] :=
  ⟨rfl, rfl, by decide +kernel, by decide +kernel, by decide +kernel, by decide +kernel, by decide +kernel, by decide +kernel, by decide +kernel⟩
theorem ok_ending {f : Addr} {fd : FuncData} (F : Fun K "ending_by" "ending_by" sEnding f fd) (B : Bare mg) : FnOk P w K mg base CX0 1 f fd ["jobs", "places", "tick"] (spEnding Ts) := by
  refine F.ok scEnding (fun vs H Q E h => ?_) (fun cdv A outer s H vs Q E hr h => ?_)
  · obtain ⟨a, l, ts, js, ps, t, rfl, _⟩ := h
    rfl
  · obtain ⟨a, l, ts, js, ps, t, rfl, J, hl, hps, h64, k⟩ := h
    refine ⟨_, pss_one (ps_ret (pe_callB call_sortedI rfl B.e2 boot_sorted (pa_cons (pe_comp rfl csEnding rfl rfl (pi_list (pv 1)) (fun _ _ _ _ _ => pg_name (i := 0) csEnding.nd rfl (Or.inl rfl))
      (fun _ _ _ _ _ => pifs_one (pt_cmpR op_le (pe_ix (ixT K) (pe_ix (ixL K) (pv 1) (pv 0) (fun _ _ => rfl)) pe_int (fun _ _ => rfl)) (pv 2) (nomark _))) (fun _ _ _ _ _ => pv 0) (fun _ => rfl)) pa_nil))), ?_⟩
    refine ⟨_, rfl, l, rfl, ⟨_, SqL.of hl⟩, fun D hD => comp_list (K := K) (a := l) (xs := ps.map IntV) (fun i τ H2 => ∃ v, τ = [v, some (.ref a), some (.int t)] ∧ H2 D = some (.lst ((endBy js (ps.take i) t).map IntV)) ∧ Grow Ts H H2) ⟨none, rfl, upd_same, (Grow.refl _ _).new hD⟩ (fun i τ H2 ⟨_, _, _, g2⟩ => SqL.of (g2.lst hl)) ?_ ?_⟩
    · rintro i x τ H2 hi hlt ⟨v, rfl, hz, g2⟩
      obtain ⟨p, hp, rfl⟩ := map_int_get hi
      have J2 := J.grow g2
      obtain ⟨tt, ht, htt⟩ := J2.get (hps p (List.mem_of_getElem? hp))
      refine ⟨_, rfl, _, rfl, a, _, _, _, rfl, rfl, SqL.of J2.lst, ht, tt, _, _, _, rfl, rfl, SqT.of htt, at0 _ _, _, rfl, _, _, rfl, rfl, _, rfl, ?_⟩
      refine ifD (fun hc => ?_) (fun hc => ?_)
      · refine ⟨_, rfl, _, hz, ?_, cw_next hlt ⟨_, rfl, ?_, g2.set hD hz⟩⟩
        · have : (endBy js (ps.take i) t).length ≤ ps.length := Nat.le_trans (List.length_filter_le _ _) (by rw [List.length_take]; omega)
          rw [List.length_map, sizeLine_eq]; omega
        · rw [upd_same, endBy_snoc hp, if_pos hc, List.map_append]; rfl
      · refine cw_next hlt ⟨_, rfl, ?_, g2⟩
        rw [endBy_snoc hp, if_neg hc]; exact hz
    · rintro τ H2 ⟨v, rfl, hz, g2⟩
      rw [List.length_map, List.take_length] at hz
      refine ⟨D, asZ (endBy js ps t), rfl, SqL.of (by rw [asZ_map]; exact hz), ?_, fun ms D2 hp hu hn => ?_⟩
      · have : (endBy js ps t).length ≤ ps.length := List.length_filter_le _ _
        rw [List.length_map]; omega
      · obtain ⟨qs, rfl, hq⟩ := perm_asZ hp
        refine k _ D2 qs (g2.new hn) hq ?_ (by rw [upd_same, asZ_map])
        exact (List.pairwise_map.mp hu).imp fun h => by omega
/-! ### order_or_tick -/
def spOrder (Ts : List Tab) (T : Tab) : Sp := fun vs H Q _ => ∃ (a l : Addr) (ts : List Addr) (js : List Job) (ps : List Nat), vs = [.ref a, .ref l] ∧ JobsAt H a ts js ∧ H l = some (.lst (ps.map IntV)) ∧ (∀ p ∈ ps, p < js.length) ∧ ps.length < 64 ∧ TabOk T H ∧
  (∀ H' D R, Grow Ts H H' → tickOf js ps = none → H' R = some (.lst ((byEnd js ps).map IntV)) → H' D = some (.tup [.str "order", .ref R]) → Q (.ref D) H') ∧
  ∀ (H' : Hp) (D R : Addr) (e : Int) (qs : List Nat), Grow Ts H H' → tickOf js ps = some e → qs.Perm (endBy js ps e) → qs.Pairwise (fun x y => x ≤ y) → H' R = some (.lst (qs.map IntV)) → H' D = some (.tup [.str "tick", .int e, .ref R]) → Q (.ref D) H'
abbrev nOrder : List Str := ["jobs", "places", "order", "ahead", "place", "end"]
theorem scOrder : FnScope nOrder ["jobs", "places"] (defScope sOrder) := ⟨rfl, rfl, rfl, by decide +kernel, rfl, by decide +kernel, by decide +kernel⟩
theorem bad_at {l : List Int} {i : Nat} {e : Int} (h : l[i]? = some e) : bad (l.drop i) i = if e ≤ (i : Int) then some e else bad (l.drop (i + 1)) (i + 1) := by
  have hi := (List.getElem?_eq_some_iff.mp h).1
  have hd : l.drop i = e :: l.drop (i + 1) := by
    rw [List.drop_eq_getElem_cons hi]
    congr 1
    exact (List.getElem?_eq_some_iff.mp h).2
  rw [hd]
  rfl
theorem ok_order {f : Addr} {fd : FuncData} (F : Fun K "order_or_tick" "order_or_tick" sOrder f fd) (B : Bare mg) {T : Tab} (hT : T ∈ Ts) (FB : Fn P w K mg base "by_end" 2 ["jobs", "places"] (spByEnd Ts T)) (FE : Fn P w K mg base "ending_by" 1 ["jobs", "places", "tick"] (spEnding Ts)) :
    FnOk P w K mg base CX0 3 f fd ["jobs", "places"] (spOrder Ts T) := by
  refine F.ok scOrder (fun vs H Q E h => ?_) (fun cdv A outer s H vs Q E hr h => ?_)
  · obtain ⟨a, l, ts, js, ps, rfl, _⟩ := h
    rfl
  · obtain ⟨a, l, ts, js, ps, rfl, J, hl, hps, h64, tk, k1, k2⟩ := h
    refine ⟨_, pss_cons (ps_set (i := 2) scOrder.nd rfl (Or.inl rfl) (pe_fn FB hr (pa_cons (pv 0) (pa_cons (pv 1) pa_nil))))
      (pss_cons (ps_for PassesOwn.never rfl (pi_enum rfl B.e1 (pa_cons (pv 2) pa_nil)) (pg_tup rfl (pgs_cons (pg_name (i := 3) scOrder.nd rfl (Or.inl rfl)) (pgs_cons (pg_name (i := 4) scOrder.nd rfl (Or.inl rfl)) pgs_nil)))
        (pss_cons (ps_set (i := 5) scOrder.nd rfl (Or.inl rfl) (pe_ix ix_tup (pe_ix ix_list (pv 0) (pv 4) (fun _ _ => rfl)) pe_int (fun _ _ => rfl)))
          (pss_one (ps_if (pt_cmpR op_le (pv 5) (pv 3) (nomark _)) (pss_one (ps_ret (pe_tup (pa_cons pe_str (pa_cons (pv 5) (pa_cons (pe_fn FE hr (pa_cons (pv 0) (pa_cons (pv 1) (pa_cons (pv 5) pa_nil)))) pa_nil)))))) pss_nil))))
        (pss_one (ps_ret (pe_tup (pa_cons pe_str (pa_cons (pv 2) pa_nil)))))), ?_⟩
    refine ⟨_, rfl, _, rfl, a, l, ts, js, ps, rfl, J, hl, hps, h64, tk, fun H1 D1 g1 hD1 => ?_⟩
    refine ⟨_, rfl, D1, rfl, ⟨_, SqL.of hD1⟩, for_enum (K := K) (a := D1) (xs := (byEnd js ps).map IntV) (fun i σ H2 => ∃ v3 v4 v5, σ = [some (.ref a), some (.ref l), some (.ref D1), v3, v4, v5] ∧ Grow Ts H1 H2 ∧ tickOf js ps = bad (((byEnd js ps).map (endOf js)).drop i) i) ⟨none, none, none, rfl, Grow.refl _ _, rfl⟩ (fun i σ H2 _ ⟨_, _, _, _, g2, _⟩ => SqL.of (g2.lst hD1)) ?_ ?_⟩
    · rintro i x p σ H2 hi ⟨v3, v4, v5, rfl, g2, hb⟩ hp
      obtain ⟨q, hq, rfl⟩ := map_int_get hi
      have g3 : Grow Ts H1 (upd H2 p (.tup [.int (i : Int), IntV q])) := g2.new hp
      have g03 := g1.trans g3
      have J3 := J.grow g03
      have hqp : q ∈ ps := (byEnd_perm js ps).mem_iff.mp (List.mem_of_getElem? hq)
      obtain ⟨tt, ht, htt⟩ := J3.get (hps q hqp)
      have he : ((byEnd js ps).map (endOf js))[i]? = some (endOf js q) := by rw [List.getElem?_map, hq]; rfl
      rw [bad_at he] at hb
      refine ⟨p, _, rfl, SqT.of upd_same, rfl, _, _, rfl, _, _, rfl, rfl, ?_⟩
      refine ⟨_, rfl, _, rfl, a, _, _, _, rfl, rfl, SqL.of J3.lst, ht, tt, _, _, _, rfl, rfl, SqT.of htt, at0 _ _, ?_⟩
      refine ⟨_, rfl, _, rfl, _, _, rfl, rfl, _, rfl, ?_⟩
      refine ifD (fun hc => ?_) (fun hc => ?_)
      · have hc : endOf js q ≤ (i : Int) := hc
        rw [if_pos hc] at hb
        refine ⟨_, rfl, _, rfl, _, rfl, _, rfl, a, l, ts, js, ps, _, rfl, J3, g03.lst hl, hps, h64, fun H4 D4 qs g4 h1 h2 h3 => ?_⟩
        refine ⟨by show 3 ≤ sizeLine; rw [sizeLine_eq]; decide, fun p5 hp5 => ?_⟩
        exact k2 _ p5 D4 _ qs ((g03.trans g4).new hp5) hb h1 h2 ((upd_ne (ne_of_none h3 hp5)).trans h3) upd_same
      · have hc : ¬ endOf js q ≤ (i : Int) := hc
        rw [if_neg hc] at hb
        exact ⟨_, _, _, rfl, g3, hb⟩
    · rintro σ H2 ⟨v3, v4, v5, rfl, g2, hb⟩
      have h1 : H2 D1 = some (.lst ((byEnd js ps).map IntV)) := g2.lst hD1
      have hn : tickOf js ps = none := by
        rw [hb, List.drop_eq_nil_of_le (by simp)]
        rfl
      refine ⟨_, rfl, by show 2 ≤ sizeLine; rw [sizeLine_eq]; decide, fun p5 hp5 => ?_⟩
      exact k1 _ p5 D1 ((g1.trans g2).new hp5) hn ((upd_ne (ne_of_none h1 hp5)).trans h1) upd_same
end
end K6

namespace K6
open PySem L2 Fb PyProof.Rows
abbrev sFall : Stmt := top 10
abbrev sSettle : Stmt := top 11
section
variable {P : Program} {w : World} {K : PySem.W.Frag} {mg : Str → Option Value} {base : Heap} {Ts : List Tab}
/-- the table of by_falling_fine -/
def tabF (P2 : Addr) : Tab := ⟨P2, lamPos sFall, ("by_falling_fine" : Str) ++ ".<locals>." ++ "<lambda>"⟩
def spFall (Ts : List Tab) (T : Tab) : Sp := fun vs H Q _ => ∃ (a : Addr) (ts : List Addr) (js : List Job), vs = [.ref a] ∧ JobsAt H a ts js ∧ js.length < 64 ∧ TabOk T H ∧
  ∀ H' D, Grow Ts H H' → H' D = some (.lst ((fallO js).map IntV)) → Q (.ref D) H'
theorem scFall : FnScope ["jobs"] ["jobs"] (defScope sFall) := ⟨rfl, rfl, rfl, by decide +kernel, rfl, by decide +kernel, by decide +kernel⟩
theorem csFall : CompScope (defScope sFall) (lamScope sFall) ["jobs"] ["place"] [0] :=
  ⟨rfl, rfl, by decide +kernel, by decide +kernel, by decide +kernel, by decide +kernel, by decide +kernel, by decide +kernel, by decide +kernel⟩
theorem ok_fall {f c P2 : Addr} {oc : Value} {od an : Option Addr} {osl : Array (Option Value)} {kV doc pm ct : Value} (lk : K.lookup f = some ⟨oc, od, .func (PySem.W.fnOf "by_falling_fine" "by_falling_fine" (defArgs sFall) (defBody sFall) (defScope sFall) .none kV doc pm an (.ref c) ct), osl⟩)
    (hcd : PySem.W.codeIn K (.ref c) "by_falling_fine" = true) (B : Bare mg) (bm : BMain mg base) (C : PySem.W.CodeHd base c P2) (hTs : ∀ T' ∈ Ts, T' = tabF P2 ∨ T'.P ≠ (tabF P2).P) :
    FnOk P w K mg base CX0 2 f (PySem.W.fnOf "by_falling_fine" "by_falling_fine" (defArgs sFall) (defBody sFall) (defScope sFall) .none kV doc pm an (.ref c) ct) ["jobs"] (spFall Ts (tabF P2)) := by
  refine fn_of lk hcd scFall (fun vs H Q E h => ?_) (fun A outer s H vs Q E hr h => ?_)
  · obtain ⟨a, ts, js, rfl, _⟩ := h
    rfl
  · obtain ⟨a, ts, js, rfl, J, h64, hT, k⟩ := h
    refine ⟨_, PSs.nox (pss_one (ps_ret (pe_sortRng domInt (T := tabF P2) (c := c) rfl B.e2 rfl B.e3 hr bm csFall rfl rfl rfl C rfl rfl rfl rfl rfl (fun _ _ _ _ _ => rfl) (pa_cons (pe_callB call_len_seq rfl B.e4 boot_len (pa_cons (pv 0) pa_nil)) pa_nil)
      (te := tOp (rIxT K) (tOp (rIxL K) (tVar 1) (tVar 0)) (tC (.int 1)))
      (fun _ _ _ _ _ _ => pe_ix ix_tup (pe_ix ix_list (pv 1) (pv 0) (fun _ _ => rfl)) pe_int (fun _ _ => rfl))))), ?_⟩
    refine ⟨_, rfl, a, _, rfl, .inl (SqL.of J.lst), js.length, keyF js, by rw [List.length_map, J.len], h64, hT, fun H2 hG => ⟨fun i hi H3 s3 => ?_, fun H5 D s5 hn => ?_⟩⟩
    · have J3 := (J.grow (hG Ts hTs)).same s3
      obtain ⟨t, ht, htt⟩ := J3.get hi
      exact ⟨_, rfl, _, rfl, a, _, _, _, rfl, rfl, SqL.of J3.lst, ht, t, _, _, _, rfl, rfl, SqT.of htt, at1 _ _, Same.refl _, rfl⟩
    · have g : Grow Ts H H5 := (hG Ts hTs).trans (.of_same s5)
      exact k _ D (g.new hn) (upd_same.trans (congrArg (fun x => some (HO.lst x)) (fall_sorted js)))
/-! ### settle -/
def spSettle (Ts : List Tab) (T1 T2 : Tab) : Sp := fun vs H Q _ => ∃ (a : Addr) (ts : List Addr) (js : List Job), vs = [.ref a] ∧ JobsAt H a ts js ∧ Good js ∧ js.length < 64 ∧ TabOk T1 H ∧ TabOk T2 H ∧
  ∀ (H' : Hp) (D A B : Addr) (qs : List Nat) (us : List Addr) (rs : List (Nat × Int)), Grow Ts H H' → H' D = some (.tup [.ref A, .ref B]) → H' A = some (.lst (qs.map IntV)) → qs.Perm (settle js).1 → qs.Pairwise (fun x y => x ≤ y) →
    JobsAt H' B us (rs.map pairZ) → rs.Perm (settle js).2 → rs.Pairwise (fun x y => x.1 ≤ y.1) → Q (.ref D) H'
abbrev nSettle : List Str := ["jobs", "kept", "left", "place", "answer"]
theorem scSettle : FnScope nSettle ["jobs"] (defScope sSettle) := ⟨rfl, rfl, rfl, by decide +kernel, rfl, by decide +kernel, by decide +kernel⟩
theorem ok_settle {f : Addr} {fd : FuncData} (F : Fun K "settle" "settle" sSettle f fd) (B : Bare mg) {T1 T2 : Tab} (hT1 : T1 ∈ Ts) (hT2 : T2 ∈ Ts) (FC : Fn P w K mg base "check_jobs" 1 ["jobs"] (spCheck Ts)) (FF : Fn P w K mg base "by_falling_fine" 2 ["jobs"] (spFall Ts T2))
    (FO : Fn P w K mg base "order_or_tick" 3 ["jobs", "places"] (spOrder Ts T1)) : FnOk P w K mg base CX0 4 f fd ["jobs"] (spSettle Ts T1 T2) := by
  refine F.ok scSettle (fun vs H Q E h => ?_) (fun cdv A outer s H vs Q E hr h => ?_)
  · obtain ⟨a, ts, js, rfl, _⟩ := h
    rfl
  · obtain ⟨a, ts, js, rfl, J, gd, h64, tk1, tk2, k⟩ := h
    refine ⟨_, pss_cons (ps_expr (pe_fn FC hr (pa_cons (pv 0) pa_nil)))
      (pss_cons (ps_set (i := 1) scSettle.nd rfl (Or.inl rfl) (pe_lst pa_nil))
      (pss_cons (ps_set (i := 2) scSettle.nd rfl (Or.inl rfl) (pe_lst pa_nil))
      (pss_cons (ps_for PassesOwn.never rfl (pi_list (pe_fn FF hr (pa_cons (pv 0) pa_nil))) (pg_name (i := 3) scSettle.nd rfl (Or.inl rfl))
        (pss_cons (ps_set (i := 4) scSettle.nd rfl (Or.inl rfl) (pe_fn FO hr (pa_cons (pv 0) (pa_cons (pe_op op_cat (pv 1) (pe_lst (pa_cons (pv 3) pa_nil))) pa_nil))))
        (pss_one (ps_if (pt_cmpR op_eq (pe_ix ix_tup (pv 4) pe_int (fun _ _ => rfl)) pe_str (nomark _)) (pss_one (ps_expr (pe_append (pv 1) (pv 3))))
          (pss_one (ps_expr (pe_append (pv 2) (pe_tup (pa_cons (pv 3) (pa_cons (pe_ix ix_tup (pv 4) pe_int (fun _ _ => rfl)) pa_nil))))))))))
      (pss_one (ps_ret (pe_tup (pa_cons (pe_callB call_sortedI rfl B.e2 boot_sorted (pa_cons (pv 1) pa_nil)) (pa_cons (pe_callB call_sortedJ rfl B.e2 boot_sorted (pa_cons (pv 2) pa_nil)) pa_nil)))))))), ?_⟩
    refine ⟨_, rfl, a, ts, js, rfl, J, gd, fun H1 g1 => ?_⟩
    refine ⟨len0, fun kA hkA => ⟨len0, fun lA hlA => ?_⟩⟩
    have hlA1 : H1 lA = none := (Same.new hkA).free hlA
    have hne : kA ≠ lA := fun z => by rw [z, upd_same] at hlA; cases hlA
    obtain ⟨H2, eH2⟩ : ∃ H2, H2 = upd (upd H1 kA (.lst [])) lA (.lst []) := ⟨_, rfl⟩
    have g2 : Grow Ts H1 H2 := by rw [eH2]; exact ((Grow.refl _ _).new hkA).new hlA
    have hk2 : H2 kA = some (.lst []) := by rw [eH2]; exact (Same.new hlA) _ _ upd_same
    have hl2 : H2 lA = some (.lst []) := by rw [eH2]; exact upd_same
    rw [← eH2]
    have J2 := (J.grow g1).grow g2
    refine ⟨_, rfl, a, ts, js, rfl, J2, h64, (g1.trans g2).tabs T2 hT2 tk2, fun H3 L g3 hL => ?_⟩
    have g23 := g2.trans g3
    refine ⟨L, rfl, ⟨_, SqL.of hL⟩, for_list (K := K) (a := L) (xs := (fallO js).map IntV) (fun i σ H4 => ∃ (v3 v4 : Option V) (us : List Addr), σ = [some (.ref a), some (.ref kA), some (.ref lA), v3, v4] ∧ Grow Ts H1 H4 ∧ H4 L = some (.lst ((fallO js).map IntV)) ∧
      H4 kA = some (.lst (((((fallO js).take i).foldl (step js) ([], [])).1).map IntV)) ∧ JobsAt H4 lA us (((((fallO js).take i).foldl (step js) ([], [])).2).map pairZ)) ?_ (fun i σ H4 _ ⟨_, _, _, _, _, z, _⟩ => SqL.of z) ?_ ?_⟩
    · exact ⟨none, none, [], rfl, g23, hL, g3.lst hk2, g3.lst hl2, rfl, fun i t j h => by simp at h⟩
    · rintro i x σ H4 hi ⟨v3, v4, us, rfl, g4, hL4, hk4, JL⟩
      obtain ⟨p, hp, rfl⟩ := map_int_get hi
      have S := settle_pre gd i
      obtain ⟨y, ey⟩ : ∃ y, y = ((fallO js).take i).foldl (step js) ([], []) := ⟨_, rfl⟩
      have ef := fold_take hp
      rw [ef]
      rw [← ey] at S hk4 JL ⊢
      have hpn : p < js.length := List.mem_range.mp ((fallO_perm js).mem_iff.mp (List.mem_of_getElem? hp))
      have hin : i < js.length := by
        have := (List.getElem?_eq_some_iff.mp hp).1
        rw [(fallO_perm js).length_eq, List.length_range] at this
        exact this
      have hlen : y.1.length + y.2.length ≤ i := by
        have := S.perm.length_eq
        rw [List.length_append, List.length_map, List.length_take] at this
        omega
      have hkin : ∀ q ∈ y.1, q < js.length := fun q hq => List.mem_range.mp ((fallO_perm js).mem_iff.mp ((List.take_sublist i (fallO js)).mem (S.perm.mem_iff.mp (List.mem_append_left _ hq))))
      have J4 := J.grow (g1.trans g4)
      -- kept + [place]
      refine ⟨_, rfl, _, rfl, _, rfl, len1, fun q hq => ⟨kA, q, _, _, rfl, rfl, (Same.new hq) _ _ hk4, upd_same, by rw [List.length_map]; exact le_sz (by show y.1.length + 1 ≤ 64; omega), fun r hr' => ?_⟩⟩
      have eap : y.1.map IntV ++ [IntV p] = (y.1 ++ [p]).map IntV := by rw [List.map_append]; rfl
      rw [eap]
      have g5 : Grow Ts H4 (upd (upd H4 q (.lst [IntV p])) r (.lst ((y.1 ++ [p]).map IntV))) := ((Grow.refl _ _).new hq).new hr'
      have gn := (g1.trans g4).trans g5
      refine ⟨a, r, ts, js, y.1 ++ [p], rfl, J4.grow g5, upd_same, fun z hz => ?_, by rw [List.length_append]; show y.1.length + 1 < 64; omega, gn.tabs T1 hT1 tk1, fun H6 D R g6 ht hR hD => ?_, fun H6 D R e qs g6 ht h1 h2 hR hD => ?_⟩
      · rcases List.mem_append.mp hz with z1 | z1
        · exact hkin z z1
        · rw [List.mem_singleton.mp z1]; exact hpn
      · -- kept
        have g46 := g5.trans g6
        have hk6 := g46.lst hk4
        have JL6 := JL.grow g46
        refine ⟨_, rfl, D, _, _, _, rfl, rfl, SqT.of hD, rfl, rfl, _, rfl, ifY rfl ?_⟩
        refine ⟨_, rfl, .inl ⟨rfl, _, SqL.of hk6⟩, _, rfl, kA, _, _, rfl, rfl, hk6, by rw [List.length_map]; exact lt_sz (by omega), ?_⟩
        rw [step_none ht]
        refine ⟨_, _, us, rfl, (g4.trans g46).set hkA hk6, ?_, ?_, JL6.other hk6 (Ne.symm hne)⟩
        · rw [upd_ne]
          · exact g46.lst hL4
          · intro z
            rw [z] at hL4
            have : L ≠ kA := by
              intro z2
              have h3 := g3.lst hk2
              rw [← z2, hL] at h3
              have h4 : (fallO js).map IntV = [] := by injection (Option.some.inj h3)
              have : (fallO js).length = 0 := by have := congrArg List.length h4; simpa using this
              rw [(fallO_perm js).length_eq, List.length_range] at this
              omega
            exact this z
        · rw [upd_same, eap]
      · -- left
        have g46 := g5.trans g6
        have hk6 := g46.lst hk4
        have JL6 := JL.grow g46
        refine ⟨_, rfl, D, _, _, _, rfl, rfl, SqT.of hD, rfl, rfl, _, rfl, ifN (by intro z; exact absurd z (by decide)) ?_⟩
        refine ⟨_, rfl, .inl ⟨rfl, _, SqL.of JL6.lst⟩, _, rfl, _, rfl, D, _, _, .int e, rfl, rfl, SqT.of hD, rfl, len2, fun t ht' => ?_⟩
        have JL7 := JL6.new (o := .tup [.int (p : Int), .int e]) ht'
        have hk7 := (Same.new (o := .tup [.int (p : Int), .int e]) ht') _ _ hk6
        refine ⟨lA, _, _, rfl, rfl, JL7.lst, ?_, ?_⟩
        · rw [List.length_map, JL7.len, List.length_map]; exact lt_sz (by omega)
        rw [step_some ht]
        refine ⟨_, _, us ++ [t], rfl, ((g4.trans g46).new ht').set hlA1 JL7.lst, ?_, ?_, ?_⟩
        · have hLl : L ≠ lA := by
            intro z2
            have h3 := g3.lst hl2
            rw [← z2, hL] at h3
            have h4 : (fallO js).map IntV = [] := by injection (Option.some.inj h3)
            have : (fallO js).length = 0 := by have := congrArg List.length h4; simpa using this
            rw [(fallO_perm js).length_eq, List.length_range] at this
            omega
          rw [upd_ne hLl]
          exact (Same.new ht') _ _ (g46.lst hL4)
        · rw [upd_ne hne]; exact hk7
        · have := JL7.snoc (t := t) (e := (p : Int)) (f := e) upd_same
          have em : (y.2 ++ [(p, e)]).map pairZ = y.2.map pairZ ++ [((p : Int), e)] := by rw [List.map_append]; rfl
          rw [em]
          exact this
    · rintro σ H4 ⟨v3, v4, us, rfl, g4, hL4, hk4, JL⟩
      have efull : (fallO js).take ((fallO js).map IntV).length = fallO js := by rw [List.length_map, List.take_length]
      rw [efull] at hk4 JL
      have S := settle_ok gd
      have hlen : (settle js).1.length + (settle js).2.length = js.length := by
        have := (S.perm.trans (fallO_perm js)).length_eq
        rw [List.length_append, List.length_map, List.length_range] at this
        exact this
      refine ⟨_, rfl, kA, asZ (settle js).1, rfl, SqL.of (by rw [asZ_map]; exact hk4), by rw [List.length_map]; omega, fun ms D1 p1 u1 hD1 => ?_⟩
      obtain ⟨qs, rfl, hq⟩ := perm_asZ p1
      rw [asZ_map]
      refine ⟨_, rfl, lA, us, _, rfl, JL.new hD1, by rw [List.length_map]; show (settle js).2.length < 64; omega, fun D2 us' js' hD2 p2 u2 JB => ?_⟩
      obtain ⟨rs, rfl, hr2⟩ := perm_pairs p2
      refine ⟨len2, fun D hD => ?_⟩
      refine k _ D D1 D2 qs us' rs ((((g1.trans g4).new hD1).new hD2).new hD) upd_same ((Same.new hD) _ _ ((Same.new hD2) _ _ upd_same)) hq ((List.pairwise_map.mp u1).imp fun h => by omega) (JB.new hD) hr2 ((List.pairwise_map.mp u2).imp fun {x y} h => ?_)
      rw [ltPair_iffF] at h
      have h' : ¬ ((y.1 : Int) < (x.1 : Int)) := fun z => h (.inl z)
      omega
end
end K6

namespace K6
open PySem L2 Fb PyProof.Rows
abbrev sChosen : Stmt := top 12
section
variable {P : Program} {w : World} {K : PySem.W.Frag} {mg : Str → Option Value} {base : Heap} {Ts : List Tab}
def spChosen (Ts : List Tab) (T1 T2 : Tab) : Sp := fun vs H Q _ => ∃ (a : Addr) (ts : List Addr) (js : List Job), vs = [.ref a] ∧ JobsAt H a ts js ∧ Good js ∧ js.length < 64 ∧ TabOk T1 H ∧ TabOk T2 H ∧
  ∀ (H' : Hp) (A : Addr) (qs : List Nat), Grow Ts H H' → H' A = some (.lst (qs.map IntV)) → qs.Perm (settle js).1 → qs.Pairwise (fun x y => x ≤ y) → Q (.ref A) H'
theorem scChosen : FnScope ["jobs"] ["jobs"] (defScope sChosen) := ⟨rfl, rfl, rfl, by decide +kernel, rfl, by decide +kernel, by decide +kernel⟩
theorem ok_chosen {f : Addr} {fd : FuncData} (F : Fun K "chosen" "chosen" sChosen f fd) {T1 T2 : Tab} (FS : Fn P w K mg base "settle" 4 ["jobs"] (spSettle Ts T1 T2)) : FnOk P w K mg base CX0 5 f fd ["jobs"] (spChosen Ts T1 T2) := by
  refine F.ok scChosen (fun vs H Q E h => ?_) (fun cdv A outer s H vs Q E hr h => ?_)
  · obtain ⟨a, ts, js, rfl, _⟩ := h
    rfl
  · obtain ⟨a, ts, js, rfl, J, gd, h64, tk1, tk2, k⟩ := h
    refine ⟨_, pss_one (ps_ret (pe_ix ix_tup (pe_fn FS hr (pa_cons (pv 0) pa_nil)) pe_int (fun _ _ => rfl))), ?_⟩
    exact ⟨_, rfl, a, ts, js, rfl, J, gd, h64, tk1, tk2, fun H' D A B qs us rs g hD hA hq hu JB hr2 hu2 => ⟨D, _, _, _, rfl, rfl, SqT.of hD, at0 _ _, k _ A qs g hA hq hu⟩⟩
end
end K6

namespace K6
open PySem L2 Fb PyProof.Rows
abbrev sReasons : Stmt := top 15
section
variable {P : Program} {w : World} {K : PySem.W.Frag} {mg : Str → Option Value} {base : Heap} {Ts : List Tab}
def spReasons (Ts : List Tab) (T1 T2 : Tab) : Sp := fun vs H Q _ => ∃ (a : Addr) (ts : List Addr) (js : List Job), vs = [.ref a] ∧ JobsAt H a ts js ∧ Good js ∧ js.length < 64 ∧ TabOk T1 H ∧ TabOk T2 H ∧
  ∀ (H' : Hp) (B : Addr) (us : List Addr) (rs : List (Nat × Int)), Grow Ts H H' → JobsAt H' B us (rs.map pairZ) → rs.Perm (settle js).2 → rs.Pairwise (fun x y => x.1 ≤ y.1) → Q (.ref B) H'
theorem scReasons : FnScope ["jobs"] ["jobs"] (defScope sReasons) := ⟨rfl, rfl, rfl, by decide +kernel, rfl, by decide +kernel, by decide +kernel⟩
theorem ok_reasons {f : Addr} {fd : FuncData} (F : Fun K "reasons" "reasons" sReasons f fd) {T1 T2 : Tab} (FS : Fn P w K mg base "settle" 4 ["jobs"] (spSettle Ts T1 T2)) : FnOk P w K mg base CX0 5 f fd ["jobs"] (spReasons Ts T1 T2) := by
  refine F.ok scReasons (fun vs H Q E h => ?_) (fun cdv A outer s H vs Q E hr h => ?_)
  · obtain ⟨a, ts, js, rfl, _⟩ := h
    rfl
  · obtain ⟨a, ts, js, rfl, J, gd, h64, tk1, tk2, k⟩ := h
    refine ⟨_, pss_one (ps_ret (pe_ix ix_tup (pe_fn FS hr (pa_cons (pv 0) pa_nil)) pe_int (fun _ _ => rfl))), ?_⟩
    exact ⟨_, rfl, a, ts, js, rfl, J, gd, h64, tk1, tk2, fun H' D A B qs us rs g hD hA hq hu JB hr2 hu2 => ⟨D, _, _, _, rfl, rfl, SqT.of hD, at1 _ _, k _ B us rs g JB hr2 hu2⟩⟩
end
end K6

namespace K6
open PySem L2 Fb PyProof.Rows
abbrev sPlan : Stmt := top 13
section
variable {P : Program} {w : World} {K : PySem.W.Frag} {mg : Str → Option Value} {base : Heap} {Ts : List Tab}
def spPlan (Ts : List Tab) (T1 T2 : Tab) : Sp := fun vs H Q _ => ∃ (a : Addr) (ts : List Addr) (js : List Job), vs = [.ref a] ∧ JobsAt H a ts js ∧ Good js ∧ js.length < 64 ∧ TabOk T1 H ∧ TabOk T2 H ∧
  ∀ (H' : Hp) (A : Addr) (qs : List Nat), Grow Ts H H' → H' A = some (.lst ((byEnd js qs).map IntV)) → qs.Perm (settle js).1 → qs.Pairwise (fun x y => x ≤ y) → Q (.ref A) H'
theorem scPlan : FnScope ["jobs"] ["jobs"] (defScope sPlan) := ⟨rfl, rfl, rfl, by decide +kernel, rfl, by decide +kernel, by decide +kernel⟩
theorem ok_plan {f : Addr} {fd : FuncData} (F : Fun K "plan" "plan" sPlan f fd) {T1 T2 : Tab} (hT1 : T1 ∈ Ts) (FB : Fn P w K mg base "by_end" 2 ["jobs", "places"] (spByEnd Ts T1)) (FC : Fn P w K mg base "chosen" 5 ["jobs"] (spChosen Ts T1 T2)) : FnOk P w K mg base CX0 6 f fd ["jobs"] (spPlan Ts T1 T2) := by
  refine F.ok scPlan (fun vs H Q E h => ?_) (fun cdv A outer s H vs Q E hr h => ?_)
  · obtain ⟨a, ts, js, rfl, _⟩ := h
    rfl
  · obtain ⟨a, ts, js, rfl, J, gd, h64, tk1, tk2, k⟩ := h
    refine ⟨_, pss_one (ps_ret (pe_fn FB hr (pa_cons (pv 0) (pa_cons (pe_fn FC hr (pa_cons (pv 0) pa_nil)) pa_nil)))), ?_⟩
    refine ⟨_, rfl, _, rfl, a, ts, js, rfl, J, gd, h64, tk1, tk2, fun H1 A1 qs g1 hA hq hu => ?_⟩
    have S := settle_ok gd
    have hp := S.perm.trans (fallO_perm js)
    have hlen : qs.length ≤ js.length := by
      have := hp.length_eq
      rw [List.length_append, List.length_range] at this
      have := hq.length_eq
      omega
    exact ⟨a, A1, ts, js, qs, rfl, J.grow g1, hA, fun p hp' => List.mem_range.mp (hp.mem_iff.mp (List.mem_append_left _ (hq.mem_iff.mp hp'))), by omega, g1.tabs T1 hT1 tk1, fun H2 D g2 hD => k _ D qs (g1.trans g2) hD hq hu⟩
end
end K6

namespace K6
open PySem L2 Fb PyProof.Rows
abbrev sFines : Stmt := top 14
section
variable {P : Program} {w : World} {K : PySem.W.Frag} {mg : Str → Option Value} {base : Heap} {Ts : List Tab}
def spFines (Ts : List Tab) (T1 T2 : Tab) : Sp := fun vs H Q _ => ∃ (a : Addr) (ts : List Addr) (js : List Job), vs = [.ref a] ∧ JobsAt H a ts js ∧ Good js ∧ js.length < 64 ∧ TabOk T1 H ∧ TabOk T2 H ∧
  ∀ (H' : Hp), Grow Ts H H' → Q (.int (leastF js)) H'
theorem scFines : FnScope ["jobs"] ["jobs"] (defScope sFines) := ⟨rfl, rfl, rfl, by decide +kernel, rfl, by decide +kernel, by decide +kernel⟩
theorem csFines : CompScope (defScope sFines) (cScope (arg0 (retE (bodyAt sFines 0)))) ["jobs"] ["place", "tick"] [0] :=
  ⟨rfl, rfl, by decide +kernel, by decide +kernel, by decide +kernel, by decide +kernel, by decide +kernel, by decide +kernel, by decide +kernel⟩
theorem ok_fines {f : Addr} {fd : FuncData} (F : Fun K "fines" "fines" sFines f fd) (B : Bare mg) {T1 T2 : Tab} (FR : Fn P w K mg base "reasons" 5 ["jobs"] (spReasons Ts T1 T2)) : FnOk P w K mg base CX0 6 f fd ["jobs"] (spFines Ts T1 T2) := by
  refine F.ok scFines (fun vs H Q E h => ?_) (fun cdv A outer s H vs Q E hr h => ?_)
  · obtain ⟨a, ts, js, rfl, _⟩ := h
    rfl
  · obtain ⟨a, ts, js, rfl, J, gd, h64, tk1, tk2, k⟩ := h
    refine ⟨_, pss_one (ps_ret (pe_callB (call_sumI hr.hd) rfl B.e13 boot_sum (pa_cons (pe_comp (g := gTup K 2 (gCons (gName 0) (gCons (gName 1) gNil))) rfl csFines rfl rfl (pi_list (pe_fn FR hr (pa_cons (pv 0) pa_nil)))
      (fun _ _ _ _ _ => pg_tup rfl (pgs_cons (pg_name (i := 0) csFines.nd rfl (Or.inl rfl)) (pgs_cons (pg_name (i := 1) csFines.nd rfl (Or.inl rfl)) pgs_nil)))
      (fun _ _ _ _ _ => pifs_nil) (fun _ _ _ _ _ => pe_ix (ixT K) (pe_ix (ixL K) (pv 2) (pv 0) (fun _ _ => rfl)) pe_int (fun _ _ => rfl)) (fun _ => rfl)) pa_nil))), ?_⟩
    refine ⟨_, rfl, a, ts, js, rfl, J, gd, h64, tk1, tk2, fun H1 B1 us rs g1 JB hr2 hu2 => ?_⟩
    have C := settle_cert gd (List.Perm.refl _) hr2
    have hp := C.2.2.2
    have hin : ∀ x ∈ rs, x.1 < js.length := fun x hx => List.mem_range.mp (hp.mem_iff.mp (List.mem_append_right _ (List.mem_map_of_mem hx)))
    have hlen : rs.length < 64 := by
      have := hp.length_eq
      rw [List.length_append, List.length_map, List.length_range] at this
      omega
    refine ⟨B1, rfl, ⟨_, SqL.of JB.lst⟩, fun D hD => comp_list (K := K) (a := B1) (xs := us.map V.ref) (fun i τ H2 => ∃ v w, τ = [v, w, some (.ref a)] ∧ H2 D = some (.lst (((rs.take i).map fun x => fineOf js x.1).map V.int)) ∧ Grow Ts H1 H2) ⟨none, none, rfl, upd_same, (Grow.refl _ _).new hD⟩ (fun i τ H2 ⟨_, _, _, _, g2⟩ => SqL.of (g2.lst JB.lst)) ?_ ?_⟩
    · rintro i x τ H2 hi hlt ⟨v, w, rfl, hz, g2⟩
      obtain ⟨t, ht, rfl⟩ := map_ref_get hi
      have hir : i < rs.length := by
        have := (List.getElem?_eq_some_iff.mp ht).1
        rw [JB.len, List.length_map] at this
        exact this
      have hrs : rs[i]? = some rs[i] := by simp [hir]
      have htt := (JB.grow g2).tup i t (pairZ rs[i]) ht (by rw [List.getElem?_map, hrs]; rfl)
      have J2 := (J.grow g1).grow g2
      obtain ⟨tt, hj, hjj⟩ := J2.get (hin _ (List.getElem_mem hir))
      refine ⟨t, _, rfl, SqT.of htt, rfl, _, _, rfl, _, _, rfl, rfl, ?_⟩
      refine ⟨_, rfl, _, rfl, a, _, _, _, rfl, rfl, SqL.of J2.lst, hj, tt, _, _, _, rfl, rfl, SqT.of hjj, at1 _ _, _, hz, ?_, cw_next hlt ⟨_, _, rfl, ?_, g2.set hD hz⟩⟩
      · rw [List.length_map, List.length_map, List.length_take]; exact lt_sz (by omega)
      · rw [upd_same, List.take_add_one, hrs, List.map_append, List.map_append]; rfl
    · rintro τ H2 ⟨v, w, rfl, hz, g2⟩
      have el : (us.map V.ref).length = rs.length := by rw [List.length_map, JB.len, List.length_map]
      rw [el, List.take_length] at hz
      refine ⟨D, rs.map fun x => fineOf js x.1, rfl, SqL.of hz, ?_⟩
      have e : (rs.map fun x => fineOf js x.1).sum = leastF js := by
        have h1 : (rs.map fun x => fineOf js x.1).Perm ((settle js).2.map fun x => fineOf js x.1) := hr2.map _
        rw [perm_sum h1]
        unfold leastF sumF jobsOf
        rw [List.map_map, List.map_map]
        rfl
      rw [e]
      exact k _ (g1.trans g2)
end
end K6

namespace K6
open PySem L2 Fb PyProof.Rows
abbrev sInTime : Stmt := top 8
section
variable {P : Program} {w : World} {K : PySem.W.Frag} {mg : Str → Option Value} {base : Heap} {Ts : List Tab}
def spInTime (Ts : List Tab) (T : Tab) : Sp := fun vs H Q E => ∃ (a l : Addr) (ts : List Addr) (js : List Job) (ps : List Nat), vs = [.ref a, .ref l] ∧ JobsAt H a ts js ∧ Good js ∧ H l = some (.lst (ps.map IntV)) ∧ (∀ p ∈ ps, p < js.length) ∧ ps.length < 64 ∧ TabOk T H ∧
  (∀ H' D R, Grow Ts H H' → tickOf js ps = none → H' R = some (.lst ((byEnd js ps).map IntV)) → H' D = some (.tup [.str "order", .ref R]) → Q (.ref D) H') ∧
  ∀ (H' : Hp) (D R : Addr) (e : Int) (qs : List Nat), Grow Ts H H' → tickOf js ps = some e → qs.Perm (endBy js ps e) → qs.Pairwise (fun x y => x ≤ y) → H' R = some (.lst (qs.map IntV)) → H' D = some (.tup [.str "tick", .int e, .ref R]) → Q (.ref D) H'
theorem scInTime : FnScope ["jobs", "places"] ["jobs", "places"] (defScope sInTime) := ⟨rfl, rfl, rfl, by decide +kernel, rfl, by decide +kernel, by decide +kernel⟩
theorem ok_inTime {f : Addr} {fd : FuncData} (F : Fun K "in_time" "in_time" sInTime f fd) {T : Tab} (hT : T ∈ Ts) (FC : Fn P w K mg base "check_jobs" 1 ["jobs"] (spCheck Ts)) (FO : Fn P w K mg base "order_or_tick" 3 ["jobs", "places"] (spOrder Ts T)) :
    FnOk P w K mg base CX0 4 f fd ["jobs", "places"] (spInTime Ts T) := by
  refine F.ok scInTime (fun vs H Q E h => ?_) (fun cdv A outer s H vs Q E hr h => ?_)
  · obtain ⟨a, l, ts, js, ps, rfl, _⟩ := h
    rfl
  · obtain ⟨a, l, ts, js, ps, rfl, J, gd, hl, hps, h64, tk, k1, k2⟩ := h
    refine ⟨_, pss_cons (ps_expr (pe_fn FC hr (pa_cons (pv 0) pa_nil))) (pss_one (ps_ret (pe_fn FO hr (pa_cons (pv 0) (pa_cons (pv 1) pa_nil))))), ?_⟩
    refine ⟨_, rfl, a, ts, js, rfl, J, gd, fun H1 g1 => ?_⟩
    exact ⟨_, rfl, _, rfl, a, l, ts, js, ps, rfl, J.grow g1, g1.lst hl, hps, h64, g1.tabs T hT tk, fun H' D R g => k1 H' D R (g1.trans g), fun H' D R e qs g => k2 H' D R e qs (g1.trans g)⟩
end
end K6

namespace K6
open PySem L2 Fb PyProof.Rows
abbrev sWhole : Stmt := top 17
abbrev sAt : Stmt := top 18
abbrev sAny : Stmt := top 25
abbrev sDrawn : Stmt := top 19
section
variable {P : Program} {w : World} {K : PySem.W.Frag} {mg : Str → Option Value} {base : Heap} {Ts : List Tab}
def spWhole : Sp := fun vs H Q _ => ∃ n : Int, vs = [.int n] ∧ Q (.bl true) H
theorem scWhole : FnScope ["_law_found"] ["_law_found"] (defScope sWhole) := ⟨rfl, rfl, rfl, by decide +kernel, rfl, by decide +kernel, by decide +kernel⟩
theorem ok_whole {f : Addr} {fd : FuncData} (F : Fun K "_law_whole" "_law_whole" sWhole f fd) (B : Bare mg) : FnOk P w K mg base CX0 1 f fd ["_law_found"] spWhole := by
  refine F.ok scWhole (fun vs H Q E h => ?_) (fun cdv A outer s H vs Q E hr h => ?_)
  · obtain ⟨n, rfl, _⟩ := h
    rfl
  · obtain ⟨n, rfl, k⟩ := h
    refine ⟨_, pss_one (ps_ret (pe_and (pe_callB call_isI rfl B.e5 boot_isinstance (pa_cons (pv 0) (pa_cons (pe_bltn rfl B.e8 btInt (v := .ty "int") rfl) pa_nil)))
      (pe_one (pe_not (pe_callB call_isI rfl B.e5 boot_isinstance (pa_cons (pv 0) (pa_cons (pe_bltn rfl B.e9 btBool (v := .ty "bool") rfl) pa_nil))))))), ?_⟩
    refine ⟨_, rfl, _, _, _, true, rfl, .int n, rfl, _, rfl, iteT ?_⟩
    exact ⟨_, rfl, _, _, _, false, rfl, .int n, rfl, _, rfl, k⟩
def spAt (K : PySem.W.Frag) : Sp := fun vs H Q _ => ∃ (a : Addr) (ns : List Int) (k : Nat), vs = [.ref a, .int (k : Int)] ∧ SqL K H a (ns.map V.int) ∧ Q (.int (ns.getD k 0)) H
theorem scAt : FnScope ["_law_script", "_law_k"] ["_law_script", "_law_k"] (defScope sAt) := ⟨rfl, rfl, rfl, by decide +kernel, rfl, by decide +kernel, by decide +kernel⟩
theorem ok_at {f : Addr} {fd : FuncData} (F : Fun K "_law_at" "_law_at" sAt f fd) (B : Bare mg) : FnOk P w K mg base CX0 1 f fd ["_law_script", "_law_k"] (spAt K) := by
  refine F.ok scAt (fun vs H Q E h => ?_) (fun cdv A outer s H vs Q E hr h => ?_)
  · obtain ⟨a, ns, k, rfl, _⟩ := h
    rfl
  · obtain ⟨a, ns, k, rfl, hs, q⟩ := h
    refine ⟨_, pss_cons (ps_if (pt_cmpR op_lt (pv 1) (pe_callB call_len_seq rfl B.e4 boot_len (pa_cons (pv 0) pa_nil)) (nomark _)) (pss_one (ps_ret (pe_ix ix_list (pv 0) (pv 1) (fun _ _ => rfl)))) pss_nil) (pss_one (ps_ret pe_int)), ?_⟩
    refine ⟨_, rfl, _, rfl, a, _, rfl, .inl hs, _, _, rfl, rfl, _, rfl, ifD (fun hc => ?_) (fun hc => ?_)⟩
    · rw [List.length_map] at hc
      have hk : k < ns.length := by omega
      refine ⟨_, rfl, _, rfl, a, _, _, _, rfl, rfl, hs, atI_nat (v := .int (ns.getD k 0)) (by simp [hk]), q⟩
    · rw [List.length_map] at hc
      have hk : ns.length ≤ k := by omega
      have e : ns.getD k 0 = 0 := by simp [hk]
      rw [e] at q
      exact q
def spAny (Ts : List Tab) : Sp := fun vs H Q _ => ∃ n : Int, vs = [.int n] ∧ ∀ H' m, Grow Ts H H' → Q (.int m) H'
theorem scAny : FnScope ["_law_cell", "_law_size"] ["_law_cell"] (defScope sAny) := ⟨rfl, rfl, rfl, by decide +kernel, rfl, by decide +kernel, by decide +kernel⟩
theorem at_two (n : Int) (x y : V) : ∃ v, atI [x, y] (n % 2) = some v ∧ (v = x ∨ v = y) := by
  have h := Int.emod_two_eq n
  rcases h with h | h
  · rw [h]; exact ⟨x, rfl, .inl rfl⟩
  · rw [h]; exact ⟨y, rfl, .inr rfl⟩
theorem ok_any {f : Addr} {fd : FuncData} (F : Fun K "_law_any" "_law_any" sAny f fd) : FnOk P w K mg base CX0 1 f fd ["_law_cell"] (spAny Ts) := by
  refine F.ok scAny (fun vs H Q E h => ?_) (fun cdv A outer s H vs Q E hr h => ?_)
  · obtain ⟨n, rfl, _⟩ := h
    rfl
  · obtain ⟨n, rfl, k⟩ := h
    refine ⟨_, pss_cons (ps_set (i := 1) scAny.nd rfl (Or.inl rfl) (pe_op op_mod (pe_op op_fdiv (pv 0) pe_int) (pe_op op_pow pe_int pe_int)))
      (pss_one (ps_ret (pe_op op_mul (pv 1) (pe_ix ix_list (pe_lst (pa_cons pe_int (pa_cons (pe_un un_neg pe_int) pa_nil))) (pe_op op_mod (pv 0) pe_int) (fun _ _ => rfl))))), ?_⟩
    refine ⟨_, rfl, _, _, rfl, rfl, ⟨by decide, by decide⟩, _, _, rfl, rfl, ⟨by decide, by decide, by decide⟩, _, _, rfl, rfl, by show (0 : Int) < 10 ^ 59; decide, ?_⟩
    refine ⟨_, rfl, _, rfl, len2, fun p hp => ?_⟩
    obtain ⟨v, hv, hv2⟩ := at_two n (.int 1) (.int (-1))
    refine ⟨_, rfl, _, _, rfl, rfl, by show (0 : Int) < 2; decide, p, _, _, v, rfl, rfl, SqL.of upd_same, hv, ?_⟩
    rcases hv2 with rfl | rfl
    · exact ⟨_, _, rfl, rfl, .inr ⟨by decide, by decide⟩, k _ _ ((Grow.refl _ _).new hp)⟩
    · exact ⟨_, _, rfl, rfl, .inr ⟨by decide, by decide⟩, k _ _ ((Grow.refl _ _).new hp)⟩
/-! ### the drawn jobs -/
def spDrawn (Ts : List Tab) : Sp := fun vs H Q _ => ∃ (c : Addr) (ns : List Int) (wd : Int), vs = [.ref c, .int wd] ∧ H c = some (.lst (ns.map V.int)) ∧ ns.length < 64 ∧ 0 < wd ∧
  ∀ (H' : Hp) (a : Addr) (ts : List Addr) (js : List Job), Grow Ts H H' → JobsAt H' a ts js → Good js → js.length = ns.length → Q (.ref a) H'
abbrev nDrawn : List Str := ["_law_cells", "_law_wide", "_law_jobs", "_law_k", "_law_cell", "_law_end", "_law_fine"]
theorem scDrawn : FnScope nDrawn ["_law_cells", "_law_wide"] (defScope sDrawn) := ⟨rfl, rfl, rfl, by decide +kernel, rfl, by decide +kernel, by decide +kernel⟩
theorem at_three (n : Int) : ∃ m : Int, atI [V.int 4, V.int 50, V.int 1000000000000] (n % 3) = some (.int m) ∧ 0 < m := by
  have h : n % 3 = 0 ∨ n % 3 = 1 ∨ n % 3 = 2 := by omega
  rcases h with h | h | h
  · rw [h]; exact ⟨_, rfl, by decide⟩
  · rw [h]; exact ⟨_, rfl, by decide⟩
  · rw [h]; exact ⟨_, rfl, by decide⟩
theorem abs_pos (m : Int) : 0 ≤ (if m < 0 then -m else m) := by split <;> omega
theorem ok_drawn {f : Addr} {fd : FuncData} (F : Fun K "_law_drawn" "_law_drawn" sDrawn f fd) (B : Bare mg) (FA : Fn P w K mg base "_law_any" 1 ["_law_cell"] (spAny Ts)) : FnOk P w K mg base CX0 2 f fd ["_law_cells", "_law_wide"] (spDrawn Ts) := by
  refine F.ok scDrawn (fun vs H Q E h => ?_) (fun cdv A outer s H vs Q E hr h => ?_)
  · obtain ⟨c, ns, wd, rfl, _⟩ := h
    rfl
  · obtain ⟨c, ns, wd, rfl, hc, h64, hw, k⟩ := h
    refine ⟨_, pss_cons (ps_set (i := 2) scDrawn.nd rfl (Or.inl rfl) (pe_lst pa_nil))
      (pss_cons (ps_for PassesOwn.never rfl (pi_range1 rfl B.e3 (pa_cons (pe_callB call_len_seq rfl B.e4 boot_len (pa_cons (pv 0) pa_nil)) pa_nil)) (pg_name (i := 3) scDrawn.nd rfl (Or.inl rfl))
        (pss_cons (ps_set (i := 4) scDrawn.nd rfl (Or.inl rfl) (pe_ix ix_list (pv 0) (pv 3) (fun _ _ => rfl)))
        (pss_cons (ps_set (i := 5) scDrawn.nd rfl (Or.inl rfl) (pe_op op_add pe_int (pe_op op_mod (pe_op op_add (pv 4) (pv 3)) (pv 1))))
        (pss_cons (ps_if (pt_cmpR op_eq (pe_op op_mod (pv 4) pe_int) pe_int (nomark _)) (pss_one (ps_set (i := 5) scDrawn.nd rfl (Or.inl rfl) (pe_op op_add pe_int (pe_callB call_abs rfl B.e12 boot_abs (pa_cons (pe_fn FA hr (pa_cons (pv 4) pa_nil)) pa_nil))))) pss_nil)
        (pss_cons (ps_set (i := 6) scDrawn.nd rfl (Or.inl rfl) (pe_op op_mod (pe_op op_fdiv (pv 4) pe_int) (pe_ix ix_list (pe_lst (pa_cons pe_int (pa_cons pe_int (pa_cons pe_int pa_nil)))) (pe_op op_mod (pe_op op_fdiv (pv 4) pe_int) pe_int) (fun _ _ => rfl))))
        (pss_cons (ps_if (pt_cmpR op_eq (pe_op op_mod (pv 4) pe_int) pe_int (nomark _)) (pss_one (ps_set (i := 6) scDrawn.nd rfl (Or.inl rfl) (pe_callB call_abs rfl B.e12 boot_abs (pa_cons (pe_fn FA hr (pa_cons (pe_op op_fdiv (pv 4) pe_int) pa_nil)) pa_nil)))) pss_nil)
        (pss_one (ps_expr (pe_append (pv 2) (pe_tup (pa_cons (pv 5) (pa_cons (pv 6) pa_nil))))))))))))
        (pss_one (ps_ret (pv 2)))), ?_⟩
    refine ⟨len0, fun D hD => ⟨_, rfl, c, _, rfl, .inl (SqL.of ((Same.new hD) _ _ hc)), _, rfl, by omega, by rw [List.length_map]; omega, ?_⟩⟩
    rw [List.length_map]
    refine for_range (lo := 0) (n := ((ns.length : Nat) : Int).toNat) (fun i σ H2 => ∃ v3 v4 v5 v6 ts js, σ = [some (.ref c), some (.int wd), some (.ref D), v3, v4, v5, v6] ∧ Grow Ts H H2 ∧ JobsAt H2 D ts js ∧ Good js ∧ js.length = i) ⟨none, none, none, none, [], [], rfl, (Grow.refl _ _).new hD, ⟨upd_same, rfl, fun i t j h => by simp at h⟩, fun j h => by simp at h, rfl⟩ ?_ ?_
    · rintro i σ H2 hi ⟨v3, v4, v5, v6, ts, js, rfl, g2, J, gd, hl⟩
      have hi' : i < ns.length := by omega
      have ei : (0 : Int) + (i : Int) = (i : Int) := by omega
      rw [ei]
      refine ⟨_, rfl, _, rfl, c, _, _, _, rfl, rfl, SqL.of (g2.lst hc), atI_nat (v := .int ns[i]) (by simp [hi']), ?_⟩
      refine ⟨_, rfl, _, rfl, _, _, rfl, rfl, _, rfl, _, _, rfl, rfl, hw, _, _, rfl, rfl, ?_⟩
      have m0 : 0 ≤ (ns[i] + (i : Int)) % wd := Int.emod_nonneg _ (by omega)
      refine ⟨_, rfl, _, _, rfl, rfl, by show (0 : Int) < 17; decide, rfl, _, rfl, ite2 (fun _ => ?p1) (fun _ => ?p2)⟩
      case' p1 =>
        refine ⟨_, rfl, _, rfl, fun H3 m g3 => ⟨_, rfl, _, _, rfl, rfl, ?_⟩⟩
        have he : 1 ≤ 1 + (if m < 0 then -m else m) := by have := abs_pos m; omega
        have J3 := J.grow g3
        have gg := g2.trans g3
      case' p2 =>
        have he : 1 ≤ 1 + (ns[i] + (i : Int)) % wd := by omega
        have J3 := J
        have gg := g2
      all_goals
        obtain ⟨q, hq, q0⟩ := at_three (ns[i] / 3)
        refine ⟨_, rfl, _, _, rfl, rfl, ⟨by decide, by decide⟩, len3, fun p hp => ?_⟩
        refine ⟨_, rfl, _, _, rfl, rfl, ⟨by decide, by decide⟩, _, _, rfl, rfl, by show (0 : Int) < 3; decide, p, _, _, _, rfl, rfl, SqL.of upd_same, hq, _, _, rfl, rfl, q0, ?_⟩
        have J4 := J3.new (o := .lst [V.int 4, V.int 50, V.int 1000000000000]) hp
        have g4 := gg.new (o := .lst [V.int 4, V.int 50, V.int 1000000000000]) hp
        refine ⟨_, rfl, _, _, rfl, rfl, by show (0 : Int) < 13; decide, rfl, _, rfl, ite2 (fun _ => ?_) (fun _ => ?_)⟩
        refine ⟨_, rfl, _, _, rfl, rfl, ⟨by decide, by decide⟩, _, rfl, fun H5 m g5 => ⟨_, rfl, ?_⟩⟩
        have hf := abs_pos m
        have J5 := J4.grow g5
        have gg5 := g4.trans g5
        rotate_left
        have hf : 0 ≤ ns[i] / 9 % q := Int.emod_nonneg _ (by omega)
        have J5 := J4
        have gg5 := g4
        all_goals
          refine ⟨_, rfl, .inl ⟨rfl, _, SqL.of J5.lst⟩, _, rfl, _, rfl, len2, fun r hr' => ?_⟩
          refine ⟨D, _, _, rfl, rfl, (J5.new hr').lst, ?_, _, _, _, _, ts ++ [r], _, rfl, (gg5.new hr').set hD (J5.new hr').lst, (J5.new hr').snoc upd_same, good_snoc gd he hf, ?_⟩
          · rw [List.length_map, J.len]; exact lt_sz (by omega)
          · rw [List.length_append, hl]; rfl
    · rintro σ H2 ⟨v3, v4, v5, v6, ts, js, rfl, g2, J, gd, hl⟩
      exact ⟨_, rfl, k _ _ _ _ g2 J gd (by omega)⟩
end
end K6

namespace K6
open PySem L2 Fb PyProof.Rows
abbrev sKept : Stmt := top 20
section
variable {P : Program} {w : World} {K : PySem.W.Frag} {mg : Str → Option Value} {base : Heap} {Ts : List Tab}
def spKept : Sp := fun vs H Q _ => ∃ (a b : Addr) (ts : List Addr) (js : List Job), vs = [.ref b, .ref a] ∧ JobsAt H a ts js ∧ JobsAt H b ts js ∧ js.length < 64 ∧ Q (.bl true) H
abbrev nKept : List Str := ["_law_found", "_law_due", "_law_k"]
theorem scKept : FnScope nKept ["_law_found", "_law_due"] (defScope sKept) := ⟨rfl, rfl, rfl, by decide +kernel, rfl, by decide +kernel, by decide +kernel⟩
theorem ok_kept {f : Addr} {fd : FuncData} (F : Fun K "_law_kept" "_law_kept" sKept f fd) (B : Bare mg) (FW : Fn P w K mg base "_law_whole" 1 ["_law_found"] spWhole) : FnOk P w K mg base CX0 2 f fd ["_law_found", "_law_due"] spKept := by
  refine F.ok scKept (fun vs H Q E h => ?_) (fun cdv A outer s H vs Q E hr h => ?_)
  · obtain ⟨a, b, ts, js, rfl, _⟩ := h
    rfl
  · obtain ⟨a, b, ts, js, rfl, J, J2, h64, k⟩ := h
    refine ⟨_, pss_cons (ps_if (PW.pt (pw_or (pt_not (pt_val (pe_callB call_isI rfl B.e5 boot_isinstance (pa_cons (pv 0) (pa_cons (pe_bltn rfl B.e6 btList (v := .ty "list") rfl) pa_nil)))))
        (pw_or1 (pt_cmpR op_ne (pe_callB call_len_seq rfl B.e4 boot_len (pa_cons (pv 0) pa_nil)) (pe_callB call_len_seq rfl B.e4 boot_len (pa_cons (pv 1) pa_nil)) (nomark _))))) pss_never pss_nil)
      (pss_cons (ps_for PassesOwn.never rfl (pi_range1 rfl B.e3 (pa_cons (pe_callB call_len_seq rfl B.e4 boot_len (pa_cons (pv 1) pa_nil)) pa_nil)) (pg_name (i := 2) scKept.nd rfl (Or.inl rfl))
        (pss_cons (ps_if (PW.pt (pw_or (pt_not (pt_val (pe_callB call_isI rfl B.e5 boot_isinstance (pa_cons (pe_ix ix_list (pv 0) (pv 2) (fun _ _ => rfl)) (pa_cons (pe_bltn rfl B.e7 btTup (v := .ty "tuple") rfl) pa_nil)))))
            (pw_or1 (pt_cmpR op_ne (pe_callB call_len_seq rfl B.e4 boot_len (pa_cons (pe_ix ix_list (pv 0) (pv 2) (fun _ _ => rfl)) pa_nil)) pe_int (nomark _))))) pss_never pss_nil)
        (pss_cons (ps_if (PW.pt (pw_or (pt_not (pt_val (pe_fn FW hr (pa_cons (pe_ix ix_tup (pe_ix ix_list (pv 0) (pv 2) (fun _ _ => rfl)) pe_int (fun _ _ => rfl)) pa_nil))))
            (pw_or1 (pt_not (pt_val (pe_fn FW hr (pa_cons (pe_ix ix_tup (pe_ix ix_list (pv 0) (pv 2) (fun _ _ => rfl)) pe_int (fun _ _ => rfl)) pa_nil))))))) pss_never pss_nil)
        (pss_one (ps_if (pt_cmpR (op_neSame hr.units0) (pe_ix ix_list (pv 0) (pv 2) (fun _ _ => rfl)) (pe_ix ix_list (pv 1) (pv 2) (fun _ _ => rfl)) (nomark _)) pss_never pss_nil)))))
      (pss_one (ps_ret pe_bl))), ?_⟩
    refine ⟨_, rfl, _, _, _, true, rfl, .lst J2.lst, rfl, _, rfl, iteF ?_⟩
    refine ⟨_, rfl, b, _, rfl, .inl (SqL.of J2.lst), _, rfl, a, _, rfl, .inl (SqL.of J.lst), rfl, _, rfl, iteNS rfl ?_⟩
    refine ⟨_, rfl, a, _, rfl, .inl (SqL.of J.lst), _, rfl, by omega, by rw [List.length_map, J.len]; omega, ?_⟩
    refine for_range (lo := 0) (fun i σ H2 => ∃ v, σ = [some (.ref b), some (.ref a), v] ∧ H2 = H) ⟨none, rfl, rfl⟩ ?_ ?_
    · rintro i σ H2 hi ⟨v, rfl, rfl⟩
      have hi' : i < js.length := by rw [List.length_map, J.len] at hi; omega
      have ei : (0 : Int) + (i : Int) = (i : Int) := by omega
      rw [ei]
      obtain ⟨t, ht, htt⟩ := J.get hi'
      refine ⟨_, rfl, _, rfl, b, _, _, _, rfl, rfl, SqL.of J2.lst, ht, _, _, _, true, rfl, .tup htt, rfl, _, rfl, iteF ?_⟩
      refine ⟨_, rfl, _, rfl, b, _, _, _, rfl, rfl, SqL.of J2.lst, ht, t, _, rfl, .inr (SqT.of htt), rfl, _, rfl, iteNS rfl ?_⟩
      refine ⟨_, rfl, _, rfl, b, _, _, _, rfl, rfl, SqL.of J2.lst, ht, t, _, _, _, rfl, rfl, SqT.of htt, at0 _ _, _, rfl, _, rfl, iteF ?_⟩
      refine ⟨_, rfl, _, rfl, b, _, _, _, rfl, rfl, SqL.of J2.lst, ht, t, _, _, _, rfl, rfl, SqT.of htt, at1 _ _, _, rfl, _, rfl, iteF ?_⟩
      refine ⟨_, rfl, _, rfl, b, _, _, _, rfl, rfl, SqL.of J2.lst, ht, _, rfl, _, rfl, a, _, _, _, rfl, rfl, SqL.of J.lst, ht, t, _, rfl, rfl, SqT.of htt, _, rfl, iteF ?_⟩
      exact ⟨_, rfl, rfl⟩
    · rintro σ H2 ⟨v, rfl, rfl⟩
      exact k
end
end K6

namespace K6
open PySem L2 Fb PyProof.Rows
abbrev sRoom : Stmt := top 23
section
variable {P : Program} {w : World} {K : PySem.W.Frag} {mg : Str → Option Value} {base : Heap} {Ts : List Tab}
def spRoom (K : PySem.W.Frag) : Sp := fun vs H Q _ => ∃ (a : Addr) (xs : List V) (m b : Int), vs = [.ref a, .int m, .int b] ∧ SqL K H a xs ∧ xs.length ≤ 63 ∧ Q (.int m) H
theorem scRoom : FnScope ["_law_script", "_law_most", "_law_bound"] ["_law_script", "_law_most", "_law_bound"] (defScope sRoom) := ⟨rfl, rfl, rfl, by decide +kernel, rfl, by decide +kernel, by decide +kernel⟩
theorem ok_room {f : Addr} {fd : FuncData} (F : Fun K "_law_room" "_law_room" sRoom f fd) (B : Bare mg) : FnOk P w K mg base CX0 1 f fd ["_law_script", "_law_most", "_law_bound"] (spRoom K) := by
  refine F.ok scRoom (fun vs H Q E h => ?_) (fun cdv A outer s H vs Q E hr h => ?_)
  · obtain ⟨a, xs, m, b, rfl, _⟩ := h
    rfl
  · obtain ⟨a, xs, m, b, rfl, hs, h63, q⟩ := h
    refine ⟨_, pss_cons (ps_if (pt_cmpR op_gt (pe_callB call_len_seq rfl B.e4 boot_len (pa_cons (pv 0) pa_nil)) pe_int (nomark _)) pss_never pss_nil) (pss_one (ps_ret (pv 1))), ?_⟩
    exact ⟨_, rfl, a, _, rfl, .inl hs, _, _, rfl, rfl, _, rfl, ifN (by omega) ⟨_, rfl, q⟩⟩
end
end K6

namespace K6
open PySem L2 Fb PyProof.Rows
abbrev sLeast : Stmt := top 22
section
variable {P : Program} {w : World} {K : PySem.W.Frag} {mg : Str → Option Value} {base : Heap} {Ts : List Tab}
def spLeast (Ts : List Tab) : Sp := fun vs H Q _ => ∃ (a : Addr) (ts : List Addr) (js : List Job), vs = [.ref a] ∧ JobsAt H a ts js ∧ Good js ∧ js.length < 64 ∧ ∀ (H' : Hp), Grow Ts H H' → Q (.int (leastF js)) H'
abbrev nLeast : List Str := ["_law_jobs", "_law_taken", "_law_due", "_law_pair", "_law_tick"]
theorem scLeast : FnScope nLeast ["_law_jobs"] (defScope sLeast) := ⟨rfl, rfl, rfl, by decide +kernel, rfl, by decide +kernel, by decide +kernel⟩
theorem csLeast : CompScope (defScope sLeast) (cScope (arg0 (retE (bodyAt sLeast 2)))) nLeast ["_law_job"] [] :=
  ⟨rfl, rfl, by decide +kernel, by decide +kernel, by decide +kernel, by decide +kernel, by decide +kernel, by decide +kernel, by decide +kernel⟩
theorem ok_least {f : Addr} {fd : FuncData} (F : Fun K "_law_least_fines" "_law_least_fines" sLeast f fd) (B : Bare mg) : FnOk P w K mg base CX0 1 f fd ["_law_jobs"] (spLeast Ts) := by
  refine F.ok scLeast (fun vs H Q E h => ?_) (fun cdv A outer s H vs Q E hr h => ?_)
  · obtain ⟨a, ts, js, rfl, _⟩ := h
    rfl
  · obtain ⟨a, ts, js, rfl, J, gd, h64, k⟩ := h
    have hu := hu_of hr
    refine ⟨_, pss_cons (ps_set (i := 1) scLeast.nd rfl (Or.inl rfl) pe_dnewK)
      (pss_cons (ps_set (i := 2) scLeast.nd rfl (Or.inl rfl) pe_int)
      (pss_cons (ps_for PassesOwn.never rfl (pi_list (pe_callB call_sortedJ rfl B.e2 boot_sorted (pa_cons (pe_comp rfl csLeast rfl rfl (pi_list (pv 0)) (fun _ _ _ _ _ => pg_name (i := 0) csLeast.nd rfl (Or.inl rfl))
          (fun _ _ _ _ _ => pifs_nil) (fun _ _ _ _ _ => pe_tup (pa_cons (pe_op op_sub pe_int (pe_ix (ixT K) (pv 0) pe_int (fun _ _ => rfl))) (pa_cons (pe_ix (ixT K) (pv 0) pe_int (fun _ _ => rfl)) pa_nil))) (fun _ => rfl)) pa_nil))) (pg_name (i := 3) scLeast.nd rfl (Or.inl rfl))
        (pss_cons (ps_set (i := 4) scLeast.nd rfl (Or.inl rfl) (pe_ix ix_tup (pv 3) pe_int (fun _ _ => rfl)))
        (pss_cons (ps_cut (ps_while PassesOwn.never (PW.pt (pw_and (pt_cmpR op_gt (pv 4) pe_int (nomark _)) (pw_and1 (pt_cmp (pc_din hu (pv 4) (pv 1)))))) (pss_one (ps_set (i := 4) scLeast.nd rfl (Or.inl rfl) (pe_op op_sub (pv 4) pe_int)))))
        (pss_one (ps_if (pt_cmpR op_gt (pv 4) pe_int (nomark _)) (pss_one (ps_dput hu (pv 1) (pv 4) pe_bl rfl)) (pss_one (ps_set (i := 2) scLeast.nd rfl (Or.inl rfl) (pe_op op_sub (pv 2) (pe_ix ix_tup (pv 3) pe_int (fun _ _ => rfl))))))))))
      (pss_one (ps_ret (pv 2))))), ?_⟩
    refine fun d hd => ?_
    have hd0 : upd H d (.dK []) d = some (.dK []) := upd_same
    have g1 : Grow Ts H (upd H d (.dK [])) := (Grow.refl _ _).new hd
    have J1 := J.grow g1
    -- the pairs
    refine ⟨_, rfl, a, rfl, ⟨_, SqL.of J1.lst⟩, fun D hD => comp_list (K := K) (a := a) (xs := ts.map V.ref) (fun i τ H2 => ∃ v us, τ = [v] ∧ JobsAt H2 D us ((js.take i).map neg) ∧ Grow Ts (upd H d (.dK [])) H2) ⟨none, [], rfl, ⟨upd_same, rfl, fun i t j h => by simp at h⟩, (Grow.refl _ _).new hD⟩ (fun i τ H2 ⟨_, _, _, _, g2⟩ => SqL.of (J1.grow g2).lst) ?_ ?_⟩
    · rintro i x τ H2 hi hlt ⟨v, us, rfl, JD, g2⟩
      obtain ⟨t, ht, rfl⟩ := map_ref_get hi
      have hij : i < js.length := by rw [← J.len]; exact (List.getElem?_eq_some_iff.mp ht).1
      have hjs : js[i]? = some js[i] := by simp [hij]
      have htt := (J1.grow g2).tup i t js[i] ht hjs
      refine ⟨_, rfl, t, _, _, _, rfl, rfl, SqT.of htt, at1 _ _, _, _, rfl, rfl, _, rfl, t, _, _, _, rfl, rfl, SqT.of htt, at0 _ _, len2, fun p hp => ?_⟩
      have JD2 := JD.new (o := .tup [.int (0 - js[i].2), .int js[i].1]) hp
      refine ⟨_, JD2.lst, ?_, cw_next hlt ⟨_, us ++ [p], rfl, ?_, (g2.new hp).set hD JD2.lst⟩⟩
      · rw [List.length_map, JD.len, List.length_map, List.length_take]; exact lt_sz (by omega)
      · have e : (js.take (i + 1)).map neg = (js.take i).map neg ++ [(0 - js[i].2, js[i].1)] := by rw [List.take_add_one, hjs, List.map_append]; rfl
        rw [e]
        exact JD2.snoc upd_same
    rintro τ H2 ⟨v, us, rfl, JD, g2⟩
    have el : (ts.map V.ref).length = js.length := by rw [List.length_map, J.len]
    rw [el, List.take_length] at JD
    refine ⟨D, us, _, rfl, JD, by rw [List.length_map]; exact h64, fun D2 us2 ms hD2 pm um JM => ?_⟩
    have g3 : Grow Ts (upd H d (.dK [])) (upd H2 D2 (.lst (us2.map V.ref))) := g2.new hD2
    obtain ⟨H3, e3⟩ : ∃ H3, H3 = upd H2 D2 (.lst (us2.map V.ref)) := ⟨_, rfl⟩
    rw [← e3] at JM g3 ⊢
    have hd3 : H3 d = some (.dK []) := g3.keep _ _ hd0 trivial
    have hG : Grow Ts H H3 := g1.trans g3
    have hml : ms.length = js.length := by rw [pm.length_eq, List.length_map]
    have hback : (ms.map back).Perm js := by
      have h1 := pm.map back
      rw [List.map_map] at h1
      have e : js.map (back ∘ neg) = js.map id := List.map_congr_left fun j _ => back_neg j
      rw [e, List.map_id] at h1
      exact h1
    refine ⟨D2, rfl, ⟨_, SqL.of JM.lst⟩, for_list (K := K) (a := D2) (xs := us2.map V.ref) (fun i σ H4 => ∃ (v3 v4 : Option V) (acc : List (Job × Int)) (rej : List Job) (kvs : List (Key × V)), σ = [some (.ref a), some (.ref d), some (.int (sumF rej)), v3, v4] ∧ Ticks ((ms.take i).map back) acc rej ∧ H4 = upd H3 d (.dK kvs) ∧ kvs.length ≤ i ∧
      ∀ t : Int, (valV kvs (Sum.inl t)).isSome = true ↔ t ∈ acc.map (·.2)) ?_ (fun i σ H4 _ ⟨_, _, _, _, _, _, _, e, _⟩ => by rw [e]; exact SqL.of (by rw [upd_ne (ne_of JM.lst hd3 (by intro z; cases z))]; exact JM.lst)) ?_ ?_⟩
    · refine ⟨none, none, [], [], [], rfl, Ticks.nil, ?_, Nat.le_refl _, fun t => by simp [valV]⟩
      funext b
      by_cases hb : b = d
      · subst hb; rw [upd_same]; exact hd3
      · rw [upd_ne hb]
    · rintro i x σ H4 hi ⟨v3, v4, acc, rej, kvs, rfl, T, rfl, hkl, hin⟩
      obtain ⟨t, ht, rfl⟩ := map_ref_get hi
      have him : i < ms.length := by rw [← JM.len]; exact (List.getElem?_eq_some_iff.mp ht).1
      have hms : ms[i]? = some ms[i] := by simp [him]
      have ht3 := JM.tup i t ms[i] ht hms
      have ht4 : ∀ o, upd H3 d o t = some (.tup [.int ms[i].1, .int ms[i].2]) := fun o => by rw [upd_ne (ne_of ht3 hd3 (by intro z; cases z))]; exact ht3
      have hin1 : back ms[i] ∈ js := hback.mem_iff.mp (List.mem_map_of_mem (List.getElem_mem him))
      have hj1 : 1 ≤ ms[i].2 := (gd _ hin1).1
      have et : (ms.take (i + 1)).map back = (ms.take i).map back ++ [back ms[i]] := by rw [List.take_add_one, hms, List.map_append]; rfl
      refine ⟨_, rfl, t, _, _, _, rfl, rfl, SqT.of (ht4 _), at1 _ _, ?_⟩
      -- the last free tick
      have hdk : upd H3 d (.dK kvs) d = some (.dK kvs) := upd_same
      refine ⟨fun σ H5 => ∃ u : Int, σ = [some (.ref a), some (.ref d), some (.int (sumF rej)), some (.ref t), some (.int u)] ∧ H5 = upd H3 d (.dK kvs) ∧ 0 ≤ u ∧ u ≤ ms[i].2 ∧ (∀ y, u < y → y ≤ ms[i].2 → y ∈ acc.map (·.2)) ∧ (u ≤ 0 ∨ u ∉ acc.map (·.2)), ?_, ?_⟩
      rotate_left
      · refine ⟨fun m σ H5 => ∃ u : Int, σ = [some (.ref a), some (.ref d), some (.int (sumF rej)), some (.ref t), some (.int u)] ∧ H5 = upd H3 d (.dK kvs) ∧ m = u.toNat ∧ 0 ≤ u ∧ u ≤ ms[i].2 ∧ ∀ y, u < y → y ≤ ms[i].2 → y ∈ acc.map (·.2), ⟨_, ms[i].2, rfl, rfl, rfl, by omega, Int.le_refl _, fun y h1 h2 => absurd h1 (by omega)⟩, ?_⟩
        rintro m σ H5 ⟨u, rfl, rfl, rfl, u0, u1, u2⟩
        refine ⟨_, rfl, _, _, rfl, rfl, _, rfl, ifD (fun hc => ?_) (fun hc => ?_)⟩
        · have hc' : 0 < u := hc
          refine ⟨_, rfl, _, rfl, d, _, rfl, DGet.k (k := Sum.inl u) hdk, _, rfl, ite2 (fun hs => ?_) (fun hs => ?_)⟩
          · have hmem := (hin u).mp hs
            refine ⟨fun σ' H' => σ' = [some (.ref a), some (.ref d), some (.int (sumF rej)), some (.ref t), some (.int (u - 1))] ∧ H' = upd H3 d (.dK kvs), fun σ' H' ⟨e1, e2⟩ => ⟨(u - 1).toNat, by omega, u - 1, e1, e2, rfl, by omega, by omega, fun y h1 h2 => ?_⟩, ?_⟩
            · by_cases hy : y = u
              · rw [hy]; exact hmem
              · exact u2 y (by omega) h2
            · exact ⟨_, rfl, _, _, rfl, rfl, rfl, rfl⟩
          · exact ⟨u, rfl, rfl, u0, u1, u2, .inr fun z => hs ((hin u).mpr z)⟩
        · exact iteF ⟨u, rfl, rfl, u0, u1, u2, .inl (by have : ¬ (0 < u) := hc; omega)⟩
      rintro σ H5 ⟨u, rfl, rfl, u0, u1, u2, u3⟩
      refine ⟨_, rfl, _, _, rfl, rfl, _, rfl, ifD (fun hc => ?_) (fun hc => ?_)⟩
      · -- a tick
        have hc' : 0 < u := hc
        have hno : u ∉ acc.map (·.2) := u3.resolve_left (by omega)
        have hv : valV kvs (Sum.inl u) = none := by
          cases e : valV kvs (Sum.inl u) with
          | none => rfl
          | some y => exact absurd ((hin u).mp (by rw [e]; rfl)) hno
        refine ⟨_, rfl, _, rfl, d, _, rfl, DPut.k (k := Sum.inl u) hdk (lt_sz (by omega)), ?_⟩
        refine ⟨_, _, acc ++ [(back ms[i], u)], rej, putK kvs (Sum.inl u) (.bl true), rfl, ?_, ?_, ?_, fun y => ?_⟩
        · rw [et]
          exact T.take (by omega) u1 hno u2
        · funext b
          by_cases hb : b = d
          · subst hb; rw [upd_same, upd_same]
          · rw [upd_ne hb, upd_ne hb, upd_ne hb]
        · have := length_putK kvs (Sum.inl u) (.bl true)
          omega
        · rw [valV_put, List.map_append]
          by_cases hy : (Sum.inl y : Key) = Sum.inl u
          · have e : y = u := by injection hy
            rw [if_pos hy, e]
            simp
          · have e : y ≠ u := fun z => hy (by rw [z])
            rw [if_neg hy, hin y]
            simp [e]
      · -- none
        have hc' : ¬ (0 < u) := hc
        have hu0 : u = 0 := by omega
        refine ⟨_, rfl, _, rfl, t, _, _, _, rfl, rfl, SqT.of (ht4 _), at0 _ _, _, _, rfl, rfl, ?_⟩
        refine ⟨some (.ref t), some (.int u), acc, rej ++ [back ms[i]], kvs, ?_, ?_, rfl, by omega, hin⟩
        · have e : sumF (rej ++ [back ms[i]]) = sumF rej - ms[i].1 := by
            rw [sumF_append]
            show sumF rej + (0 - ms[i].1 + 0) = _
            omega
          rw [e]
          rfl
        · rw [et]
          refine T.leave (fun y h1 h2 => u2 y (by omega) h2) fun x hx => ?_
          obtain ⟨m, hm, rfl⟩ := List.mem_map.mp hx
          obtain ⟨j, hj, rfl⟩ := List.mem_iff_getElem.mp hm
          rw [List.length_take] at hj
          have hji : j < i := by omega
          have hjm : j < ms.length := by omega
          have hlt := (List.pairwise_iff_getElem.mp um) j i hjm him hji
          rw [ltPair_iffF] at hlt
          have hn : ¬ (ms[i].1 < ms[j].1) := fun z => hlt (.inl z)
          have eg : (ms.take i)[j]'(by rw [List.length_take]; omega) = ms[j] := List.getElem_take
          show 0 - ms[i].1 ≤ 0 - ((ms.take i)[j]'(by rw [List.length_take]; omega)).1
          rw [eg]
          omega
    · rintro σ H4 ⟨v3, v4, acc, rej, kvs, rfl, T, rfl, hkl, hin⟩
      have el2 : (us2.map V.ref).length = ms.length := by rw [List.length_map, JM.len]
      rw [el2, List.take_length] at T
      refine ⟨_, rfl, ?_⟩
      rw [least_of gd T.cert (T.perm.trans hback)]
      exact k _ (hG.setD hd hd3)
end
end K6

namespace K6
open PySem L2 Fb PyProof.Rows
section
variable {P : Program} {w : World} {K : PySem.W.Frag} {mg : Str → Option Value} {base : Heap} {Ts : List Tab} {C : Addr}
/-- jobs that are refused -/
def spBad (Ts : List Tab) : Sp := fun vs H _ E => ∃ (a : Addr) (ts : List Addr) (js : List Job), vs = [.ref a] ∧ JobsAt H a ts js ∧ ¬ Good js ∧ js.length < 64 ∧ ∀ (e : Value) (H' : Hp), Grow Ts H H' → E e none H'
theorem fits : ∀ n : Fin 64, fit3 "no job at place " ": the end is below one or the fine below nought" ((n : Nat) : Int) := by
  unfold fit3
  decide +kernel
theorem bad_check {f : Addr} {fd : FuncData} (F : Fun K "check_jobs" "check_jobs" sCheck f fd) (B : Bare mg) (cN : ExcC K C) (hm : mg "NoJob" = some (.ref C)) : FnOk P w K mg base (CXn P w C) 1 f fd ["jobs"] (spBad Ts) := by
  obtain ⟨oc, od, kV, doc, pm, an, cdv, ct, osl, rfl, lk, hcd⟩ := F.ex
  refine fn_of lk hcd scCheck (fun vs H Q E h => ?_) (fun A outer s H vs Q E hr h => ?_)
  · obtain ⟨a, ts, js, rfl, _⟩ := h
    rfl
  · obtain ⟨a, ts, js, rfl, J, nb, h64, k⟩ := h
    refine ⟨_, pss_one (ps_for PassesOwn.leaving rfl (pi_enum rfl B.e1 (pa_cons (pv 0) pa_nil)) (pg_tup rfl (pgs_cons (pg_name (i := 1) scCheck.nd rfl (Or.inl rfl)) (pgs_cons (pg_name (i := 2) scCheck.nd rfl (Or.inl rfl)) pgs_nil)))
      (pss_one (ps_if (PW.pt (pw_or (pt_cmpR op_lt (pe_ix ix_tup (pv 2) pe_int (fun _ _ => rfl)) pe_int (nomark _)) (pw_or1 (pt_cmpR op_lt (pe_ix ix_tup (pv 2) pe_int (fun _ _ => rfl)) pe_int (nomark _)))))
        (pss_one (ps_raise rfl rfl cN rfl hm (pa_cons (pe_f3 (pv 1) (by decide +kernel)) pa_nil))) pss_nil))), ?_⟩
    refine ⟨_, rfl, a, rfl, ⟨_, SqL.of J.lst⟩, for_enum (K := K) (a := a) (xs := ts.map V.ref) (fun i σ H2 => ∃ v1 v2, σ = [some (.ref a), v1, v2] ∧ Grow Ts H H2 ∧ ∀ (j : Nat) x, j < i → js[j]? = some x → 1 ≤ x.1 ∧ 0 ≤ x.2) ⟨none, none, rfl, Grow.refl _ _, fun j x hj => absurd hj (Nat.not_lt_zero _)⟩ (fun i σ H2 _ ⟨_, _, _, g2, _⟩ => SqL.of (g2.lst J.lst)) ?_ ?_⟩
    · rintro i x p σ H2 hi ⟨v1, v2, rfl, g2, hall⟩ hp
      obtain ⟨t, ht, rfl⟩ := map_ref_get hi
      have hlt : i < js.length := by rw [← J.len]; exact (List.getElem?_eq_some_iff.mp ht).1
      have hj := J.tup i t js[i] ht (by simp [hlt])
      have g3 : Grow Ts H (upd H2 p (.tup [.int (i : Int), .ref t])) := g2.new hp
      have hfit := fits ⟨i, by omega⟩
      refine ⟨p, _, rfl, SqT.of upd_same, rfl, _, _, rfl, _, _, rfl, rfl, ?_⟩
      refine ⟨_, rfl, t, _, _, _, rfl, rfl, SqT.of (g3.tup hj), at0 _ _, _, _, rfl, rfl, _, rfl, ifD (fun hc => ?_) (fun hc => ?_)⟩
      · refine iteT ?_
        exact ⟨_, rfl, _, rfl, hfit, fun z => ⟨len1, fun e => k e _ g3⟩⟩
      · refine ⟨_, rfl, t, _, _, _, rfl, rfl, SqT.of (g3.tup hj), at1 _ _, _, _, rfl, rfl, _, rfl, ifD (fun hc2 => ?_) (fun hc2 => ?_)⟩
        · exact ⟨_, rfl, _, rfl, hfit, fun z => ⟨len1, fun e => k e _ g3⟩⟩
        · refine ⟨_, _, rfl, g3, fun j x hj' hx => ?_⟩
          by_cases hji : j < i
          · exact hall j x hji hx
          · have e : j = i := by omega
            subst e
            rw [List.getElem?_eq_getElem hlt] at hx
            cases hx
            omega
    · rintro σ H2 ⟨_, _, rfl, g2, hall⟩
      refine absurd (fun j hj => ?_) nb
      obtain ⟨i, hi, rfl⟩ := List.mem_iff_getElem.mp hj
      exact hall i _ (by rw [List.length_map, J.len]; exact hi) (by simp [hi])
theorem bad_settle {f : Addr} {fd : FuncData} (F : Fun K "settle" "settle" sSettle f fd) (FC : FnX P w K mg base C "check_jobs" 1 ["jobs"] (spBad Ts)) : FnOk P w K mg base (CXn P w C) 2 f fd ["jobs"] (spBad Ts) := by
  obtain ⟨oc, od, kV, doc, pm, an, cdv, ct, osl, rfl, lk, hcd⟩ := F.ex
  refine fn_of lk hcd scSettle (fun vs H Q E h => ?_) (fun A outer s H vs Q E hr h => ?_)
  · obtain ⟨a, ts, js, rfl, _⟩ := h
    rfl
  · obtain ⟨a, ts, js, rfl, J, nb, h64, k⟩ := h
    refine ⟨_, pss_cons (ps_expr (pe_fnX FC hr pass_fly (pa_cons (pv 0) pa_nil))) pss_never, ?_⟩
    exact ⟨_, rfl, a, ts, js, rfl, J, nb, h64, k⟩
theorem bad_chosen {f : Addr} {fd : FuncData} (F : Fun K "chosen" "chosen" sChosen f fd) (FS : FnX P w K mg base C "settle" 2 ["jobs"] (spBad Ts)) : FnOk P w K mg base (CXn P w C) 3 f fd ["jobs"] (spBad Ts) := by
  obtain ⟨oc, od, kV, doc, pm, an, cdv, ct, osl, rfl, lk, hcd⟩ := F.ex
  refine fn_of lk hcd scChosen (fun vs H Q E h => ?_) (fun A outer s H vs Q E hr h => ?_)
  · obtain ⟨a, ts, js, rfl, _⟩ := h
    rfl
  · obtain ⟨a, ts, js, rfl, J, nb, h64, k⟩ := h
    refine ⟨_, pss_one (ps_ret (pe_ix ix_tup (pe_fnX FS hr pass_fly (pa_cons (pv 0) pa_nil)) pe_int (fun _ _ => rfl))), ?_⟩
    exact ⟨_, rfl, a, ts, js, rfl, J, nb, h64, k⟩
theorem bad_reasons {f : Addr} {fd : FuncData} (F : Fun K "reasons" "reasons" sReasons f fd) (FS : FnX P w K mg base C "settle" 2 ["jobs"] (spBad Ts)) : FnOk P w K mg base (CXn P w C) 3 f fd ["jobs"] (spBad Ts) := by
  obtain ⟨oc, od, kV, doc, pm, an, cdv, ct, osl, rfl, lk, hcd⟩ := F.ex
  refine fn_of lk hcd scReasons (fun vs H Q E h => ?_) (fun A outer s H vs Q E hr h => ?_)
  · obtain ⟨a, ts, js, rfl, _⟩ := h
    rfl
  · obtain ⟨a, ts, js, rfl, J, nb, h64, k⟩ := h
    refine ⟨_, pss_one (ps_ret (pe_ix ix_tup (pe_fnX FS hr pass_fly (pa_cons (pv 0) pa_nil)) pe_int (fun _ _ => rfl))), ?_⟩
    exact ⟨_, rfl, a, ts, js, rfl, J, nb, h64, k⟩
theorem bad_plan {f : Addr} {fd : FuncData} (F : Fun K "plan" "plan" sPlan f fd) {T1 : Tab} (FB : Fn P w K mg base "by_end" 2 ["jobs", "places"] (spByEnd Ts T1)) (FC : FnX P w K mg base C "chosen" 3 ["jobs"] (spBad Ts)) : FnOk P w K mg base (CXn P w C) 4 f fd ["jobs"] (spBad Ts) := by
  obtain ⟨oc, od, kV, doc, pm, an, cdv, ct, osl, rfl, lk, hcd⟩ := F.ex
  refine fn_of lk hcd scPlan (fun vs H Q E h => ?_) (fun A outer s H vs Q E hr h => ?_)
  · obtain ⟨a, ts, js, rfl, _⟩ := h
    rfl
  · obtain ⟨a, ts, js, rfl, J, nb, h64, k⟩ := h
    refine ⟨_, pss_one (ps_ret (pe_fn FB hr (pa_cons (pv 0) (pa_cons (pe_fnX FC hr pass_fly (pa_cons (pv 0) pa_nil)) pa_nil)))), ?_⟩
    exact ⟨_, rfl, _, rfl, a, ts, js, rfl, J, nb, h64, k⟩
theorem bad_fines {f : Addr} {fd : FuncData} (F : Fun K "fines" "fines" sFines f fd) (B : Bare mg) (FR : FnX P w K mg base C "reasons" 3 ["jobs"] (spBad Ts)) : FnOk P w K mg base (CXn P w C) 4 f fd ["jobs"] (spBad Ts) := by
  obtain ⟨oc, od, kV, doc, pm, an, cdv, ct, osl, rfl, lk, hcd⟩ := F.ex
  refine fn_of lk hcd scFines (fun vs H Q E h => ?_) (fun A outer s H vs Q E hr h => ?_)
  · obtain ⟨a, ts, js, rfl, _⟩ := h
    rfl
  · obtain ⟨a, ts, js, rfl, J, nb, h64, k⟩ := h
    refine ⟨_, pss_one (ps_ret (pe_callB (call_sumI hr.hd) rfl B.e13 boot_sum (pa_cons (pe_comp (g := gTup K 2 (gCons (gName 0) (gCons (gName 1) gNil))) rfl csFines rfl rfl (pi_list (by exact pe_fnX FR hr pass_fly (pa_cons (pv 0) pa_nil)))
      (fun _ _ _ _ _ => pg_tup rfl (pgs_cons (pg_name (i := 0) csFines.nd rfl (Or.inl rfl)) (pgs_cons (pg_name (i := 1) csFines.nd rfl (Or.inl rfl)) pgs_nil)))
      (fun _ _ _ _ _ => pifs_nil) (fun _ _ _ _ _ => pe_ix (ixT K) (pe_ix (ixL K) (pv 2) (pv 0) (fun _ _ => rfl)) pe_int (fun _ _ => rfl)) (fun _ => rfl)) pa_nil))), ?_⟩
    exact ⟨_, rfl, a, ts, js, rfl, J, nb, h64, k⟩
def spBad2 (Ts : List Tab) : Sp := fun vs H _ E => ∃ (a l : Addr) (ts : List Addr) (js : List Job), vs = [.ref a, .ref l] ∧ JobsAt H a ts js ∧ ¬ Good js ∧ js.length < 64 ∧ ∀ (e : Value) (H' : Hp), Grow Ts H H' → E e none H'
theorem bad_inTime {f : Addr} {fd : FuncData} (F : Fun K "in_time" "in_time" sInTime f fd) (FC : FnX P w K mg base C "check_jobs" 1 ["jobs"] (spBad Ts)) : FnOk P w K mg base (CXn P w C) 2 f fd ["jobs", "places"] (spBad2 Ts) := by
  obtain ⟨oc, od, kV, doc, pm, an, cdv, ct, osl, rfl, lk, hcd⟩ := F.ex
  refine fn_of lk hcd scInTime (fun vs H Q E h => ?_) (fun A outer s H vs Q E hr h => ?_)
  · obtain ⟨a, l, ts, js, rfl, _⟩ := h
    rfl
  · obtain ⟨a, l, ts, js, rfl, J, nb, h64, k⟩ := h
    refine ⟨_, pss_cons (ps_expr (pe_fnX FC hr pass_fly (pa_cons (pv 0) pa_nil))) pss_never, ?_⟩
    exact ⟨_, rfl, a, ts, js, rfl, J, nb, h64, k⟩
end
end K6

namespace K6
open PySem L2 Fb PyProof.Rows
abbrev sSo : Stmt := top 26
section
variable {P : Program} {w : World} {K : PySem.W.Frag} {mg : Str → Option Value} {base : Heap} {Ts : List Tab}
def spSo (Ts : List Tab) : Sp := fun vs H Q _ => ∃ (n : Int), vs = [.int n, .int n] ∧ ∀ H', Grow Ts H H' → Q (.bl true) H'
abbrev nSo : List Str := ["_law_found", "_law_due", "_law_todo", "_law_one", "_law_other", "_law_k"]
theorem scSo : FnScope nSo ["_law_found", "_law_due"] (defScope sSo) := ⟨rfl, rfl, rfl, by decide +kernel, rfl, by decide +kernel, by decide +kernel⟩
theorem ok_so {f : Addr} {fd : FuncData} (F : Fun K "_law_so" "_law_so" sSo f fd) (B : Bare mg) : FnOk P w K mg base CX0 1 f fd ["_law_found", "_law_due"] (spSo Ts) := by
  refine F.ok scSo (fun vs H Q E h => ?_) (fun cdv A outer s H vs Q E hr h => ?_)
  · obtain ⟨n, rfl, _⟩ := h
    rfl
  · obtain ⟨n, rfl, k⟩ := h
    refine ⟨_, pss_cons (ps_set (i := 2) scSo.nd rfl (Or.inl rfl) (pe_lst (pa_cons (pe_tup (pa_cons (pv 0) (pa_cons (pv 1) pa_nil))) pa_nil)))
      (pss_cons (ps_while PassesOwn.never (pt_cmpR (op_neNil hr.units0) (pv 2) (pe_lst pa_nil) (nomark _))
        (pss_cons (ps_asg (pe_pop (pv 2)) (pg_tup rfl (pgs_cons (pg_name (i := 3) scSo.nd rfl (Or.inl rfl)) (pgs_cons (pg_name (i := 4) scSo.nd rfl (Or.inl rfl)) pgs_nil))))
        (pss_one (ps_if (pt_val (pe_callB call_isT rfl B.e5 boot_isinstance (pa_cons (pv 4) (pa_cons (pe_tup (pa_cons (pe_bltn rfl B.e6 btList (v := .ty "list") rfl) (pa_cons (pe_bltn rfl B.e7 btTup (v := .ty "tuple") rfl) pa_nil))) pa_nil)))) pss_never
          (pss_one (ps_if (pt_val (pe_callB call_isI rfl B.e5 boot_isinstance (pa_cons (pv 4) (pa_cons (pe_bltn rfl B.e10 btStr (v := .ty "str") rfl) pa_nil)))) pss_never
          (pss_one (ps_if (pt_val (pe_callB call_isI rfl B.e5 boot_isinstance (pa_cons (pv 4) (pa_cons (pe_bltn rfl B.e9 btBool (v := .ty "bool") rfl) pa_nil)))) pss_never
          (pss_one (ps_if (pt_cmp (pc_isN (pv 4))) pss_never
          (pss_one (ps_if (PW.pt (pw_or (pt_not (pt_val (pe_callB call_isI rfl B.e5 boot_isinstance (pa_cons (pv 3) (pa_cons (pe_bltn rfl B.e8 btInt (v := .ty "int") rfl) pa_nil)))))
              (pw_or (pt_val (pe_callB call_isI rfl B.e5 boot_isinstance (pa_cons (pv 3) (pa_cons (pe_bltn rfl B.e9 btBool (v := .ty "bool") rfl) pa_nil)))) (pw_or1 (pt_cmpR op_ne (pv 3) (pv 4) (nomark _)))))) pss_never pss_nil))))))))))))
      (pss_one (ps_ret pe_bl))), ?_⟩
    refine ⟨_, rfl, _, rfl, len2, fun p hp => ⟨len1, fun D hD => ?_⟩⟩
    have hD0 : H D = none := (Same.new hp).free hD
    have g0 : Grow Ts H (upd (upd H p (.tup [.int n, .int n])) D (.lst [.ref p])) := ((Grow.refl _ _).new hp).new hD
    have hp0 : upd (upd H p (.tup [.int n, .int n])) D (.lst [.ref p]) p = some (.tup [.int n, .int n]) := (Same.new hD) _ _ upd_same
    refine ⟨fun m σ H2 => ∃ v3 v4 v5 us, σ = [some (.int n), some (.int n), some (.ref D), v3, v4, v5] ∧ Grow Ts H H2 ∧ H2 D = some (.lst (us.map V.ref)) ∧ m = us.length ∧ (us = [] ∨ (us = [p] ∧ H2 p = some (.tup [.int n, .int n]))), ⟨1, none, none, none, [p], rfl, g0, upd_same, rfl, .inr ⟨rfl, hp0⟩⟩, ?_⟩
    rintro m σ H2 ⟨v3, v4, v5, us, rfl, g2, hd, rfl, hm⟩
    refine ⟨_, rfl, len0, fun e he => ⟨D, e, _, rfl, rfl, SqL.of ((Same.new he) _ _ hd), SqL.of upd_same, _, rfl, ?_⟩⟩
    have g3 : Grow Ts H (upd H2 e (.lst [])) := g2.new he
    have hd3 : upd H2 e (.lst []) D = some (.lst (us.map V.ref)) := (Same.new he) _ _ hd
    rcases hm with rfl | ⟨rfl, hp2⟩
    · exact iteF (k _ g3)
    refine iteT ⟨fun σ' H' => ∃ v3 v4 v5, σ' = [some (.int n), some (.int n), some (.ref D), v3, v4, v5] ∧ Grow Ts H H' ∧ H' D = some (.lst ([] : List V)), fun σ' H' ⟨v3, v4, v5, e1, e2, e3⟩ => ⟨0, by show 0 < 1; decide, v3, v4, v5, [], e1, e2, e3, rfl, .inl rfl⟩, ?_⟩
    have g4 : Grow Ts H (upd (upd H2 e (.lst [])) D (.lst [])) := g3.set hD0 hd3
    refine ⟨_, rfl, .inl ⟨rfl, _, SqL.of hd3⟩, D, _, .ref p, rfl, rfl, hd3, rfl, ?_⟩
    have hn4 : upd (upd H2 e (.lst [])) D (.lst []) p = some (.tup [.int n, .int n]) := by
      have h3 : upd H2 e (.lst []) p = some (.tup [.int n, .int n]) := (Same.new he) _ _ hp2
      rw [upd_ne (ne_of h3 hd3 (by intro z; cases z))]; exact h3
    refine ⟨p, _, rfl, SqT.of hn4, rfl, _, _, rfl, _, _, rfl, rfl, ?_⟩
    refine ⟨_, rfl, len2, fun q hq => ⟨_, q, ["list", "tuple"], _, false, rfl, upd_same, .int n, rfl, _, rfl, iteF ?_⟩⟩
    refine ⟨_, rfl, _, _, _, false, rfl, .int n, rfl, _, rfl, iteF ?_⟩
    refine ⟨_, rfl, _, _, _, false, rfl, .int n, rfl, _, rfl, iteF ?_⟩
    refine ⟨_, rfl, _, rfl, iteF ?_⟩
    refine ⟨_, rfl, _, _, _, true, rfl, .int n, rfl, _, rfl, iteF ?_⟩
    refine ⟨_, rfl, _, _, _, false, rfl, .int n, rfl, _, rfl, iteF ?_⟩
    refine ⟨_, rfl, _, rfl, rfl, _, rfl, iteNS rfl ?_⟩
    exact ⟨_, _, _, rfl, g4.new hq, (Same.new hq) _ _ upd_same⟩
end
end K6

namespace K6
open PySem L2 Fb PyProof.Rows
abbrev sRefuses : Stmt := top 21
abbrev sTells : Stmt := top 24
section
variable {P : Program} {w : World} {K : PySem.W.Frag} {mg : Str → Option Value} {base : Heap} {Ts : List Tab} {C CF : Addr}
def spRefuses (Ts : List Tab) (T1 T2 : Tab) : Sp := fun vs H Q _ => ∃ (a : Addr) (ts : List Addr) (js : List Job) (n : Nat), vs = [.int (n : Int), .ref a] ∧ n < 5 ∧ JobsAt H a ts js ∧ js.length < 64 ∧ TabOk T1 H ∧ TabOk T2 H ∧
  (Good js → ∀ H', Grow Ts H H' → Q (.bl false) H') ∧ (¬ Good js → ∀ H', Grow Ts H H' → Q (.bl true) H')
theorem scRefuses : FnScope ["_law_way", "_law_jobs"] ["_law_way", "_law_jobs"] (defScope sRefuses) := ⟨rfl, rfl, rfl, by decide +kernel, rfl, by decide +kernel, by decide +kernel⟩
theorem ok_refuses {f : Addr} {fd : FuncData} (F : Fun K "_law_refuses" "_law_refuses" sRefuses f fd) {T1 T2 : Tab} (cN : ExcC K C) (hm : mg "NoJob" = some (.ref C))
    (GI : Fn P w K mg base "in_time" 4 ["jobs", "places"] (spInTime Ts T1)) (GC : Fn P w K mg base "chosen" 5 ["jobs"] (spChosen Ts T1 T2)) (GF : Fn P w K mg base "fines" 6 ["jobs"] (spFines Ts T1 T2)) (GP : Fn P w K mg base "plan" 6 ["jobs"] (spPlan Ts T1 T2)) (GR : Fn P w K mg base "reasons" 5 ["jobs"] (spReasons Ts T1 T2))
    (BI : FnX P w K mg base C "in_time" 2 ["jobs", "places"] (spBad2 Ts)) (BC : FnX P w K mg base C "chosen" 3 ["jobs"] (spBad Ts)) (BF : FnX P w K mg base C "fines" 4 ["jobs"] (spBad Ts)) (BP : FnX P w K mg base C "plan" 4 ["jobs"] (spBad Ts)) (BR : FnX P w K mg base C "reasons" 3 ["jobs"] (spBad Ts)) :
    FnOk P w K mg base CX0 7 f fd ["_law_way", "_law_jobs"] (spRefuses Ts T1 T2) := by
  refine F.ok scRefuses (fun vs H Q E h => ?_) (fun cdv A outer s H vs Q E hr h => ?_)
  · obtain ⟨a, ts, js, n, rfl, _⟩ := h
    rfl
  · obtain ⟨a, ts, js, n, rfl, hn, J, h64, tk1, tk2, k1, k2⟩ := h
    by_cases gd : Good js
    · refine ⟨_, pss_cons (ps_try (P := P) (w := w) (C := C) (Ex := fun _ _ _ => False) rfl rfl rfl rfl cN rfl hm (fun pins xe hx => pss_one (ps_if (pt_cmpR op_eq (pv 0) pe_int (nomark _)) (pss_one (ps_expr (pe_fn GI hr (pa_cons (pv 1) (pa_cons (pe_lst pa_nil) pa_nil)))))
          (pss_one (ps_if (pt_cmpR op_eq (pv 0) pe_int (nomark _)) (pss_one (ps_expr (pe_fn GC hr (pa_cons (pv 1) pa_nil))))
          (pss_one (ps_if (pt_cmpR op_eq (pv 0) pe_int (nomark _)) (pss_one (ps_expr (pe_fn GF hr (pa_cons (pv 1) pa_nil))))
          (pss_one (ps_if (pt_cmpR op_eq (pv 0) pe_int (nomark _)) (pss_one (ps_expr (pe_fn GP hr (pa_cons (pv 1) pa_nil)))) (pss_one (ps_expr (pe_fn GR hr (pa_cons (pv 1) pa_nil))))))))))))
        (fun v => pss_one (ps_ret pe_bl))) (pss_one (ps_ret pe_bl)), ?_⟩
      have k := k1 gd
      have hcase : n = 0 ∨ n = 1 ∨ n = 2 ∨ n = 3 ∨ n = 4 := by omega
      rcases hcase with rfl | rfl | rfl | rfl | rfl
      · refine ⟨?_, fun e σ' H' z => z.elim⟩
        refine ⟨_, rfl, rfl, _, rfl, ifY rfl ?_⟩
        refine ⟨_, rfl, len0, fun p hp => ?_⟩
        refine ⟨a, p, ts, js, [], rfl, J.new hp, gd, upd_same, fun q hq => absurd hq List.not_mem_nil, by decide, tk1.same (.new hp), fun H' D R g _ _ _ => k _ (((Grow.refl _ _).new hp).trans g), fun H' D R e qs g _ _ _ _ _ => k _ (((Grow.refl _ _).new hp).trans g)⟩
      · refine ⟨?_, fun e σ' H' z => z.elim⟩
        refine ⟨_, rfl, rfl, _, rfl, ifN (by intro z; cases z) ?_⟩
        refine ⟨_, rfl, rfl, _, rfl, ifY rfl ?_⟩
        exact ⟨_, rfl, a, ts, js, rfl, J, gd, h64, tk1, tk2, fun H' A qs g _ _ _ => k _ g⟩
      · refine ⟨?_, fun e σ' H' z => z.elim⟩
        refine ⟨_, rfl, rfl, _, rfl, ifN (by intro z; cases z) ?_⟩
        refine ⟨_, rfl, rfl, _, rfl, ifN (by intro z; cases z) ?_⟩
        refine ⟨_, rfl, rfl, _, rfl, ifY rfl ?_⟩
        exact ⟨_, rfl, a, ts, js, rfl, J, gd, h64, tk1, tk2, fun H' g => k _ g⟩
      · refine ⟨?_, fun e σ' H' z => z.elim⟩
        refine ⟨_, rfl, rfl, _, rfl, ifN (by intro z; cases z) ?_⟩
        refine ⟨_, rfl, rfl, _, rfl, ifN (by intro z; cases z) ?_⟩
        refine ⟨_, rfl, rfl, _, rfl, ifN (by intro z; cases z) ?_⟩
        refine ⟨_, rfl, rfl, _, rfl, ifY rfl ?_⟩
        exact ⟨_, rfl, a, ts, js, rfl, J, gd, h64, tk1, tk2, fun H' A qs g _ _ _ => k _ g⟩
      · refine ⟨?_, fun e σ' H' z => z.elim⟩
        refine ⟨_, rfl, rfl, _, rfl, ifN (by intro z; cases z) ?_⟩
        refine ⟨_, rfl, rfl, _, rfl, ifN (by intro z; cases z) ?_⟩
        refine ⟨_, rfl, rfl, _, rfl, ifN (by intro z; cases z) ?_⟩
        refine ⟨_, rfl, rfl, _, rfl, ifN (by intro z; cases z) ?_⟩
        exact ⟨_, rfl, a, ts, js, rfl, J, gd, h64, tk1, tk2, fun H' B us rs g _ _ _ => k _ g⟩
    · have k := k2 gd
      refine ⟨_, pss_cons (ps_try (P := P) (w := w) (C := C) (Ex := fun _ _ H' => Grow Ts H H') rfl rfl rfl rfl cN rfl hm (fun pins xe hx => pss_one (ps_if (pt_cmpR op_eq (pv 0) pe_int (nomark _)) (pss_one (ps_expr (pe_fnX BI hr hx (pa_cons (pv 1) (pa_cons (pe_lst pa_nil) pa_nil)))))
          (pss_one (ps_if (pt_cmpR op_eq (pv 0) pe_int (nomark _)) (pss_one (ps_expr (pe_fnX BC hr hx (pa_cons (pv 1) pa_nil))))
          (pss_one (ps_if (pt_cmpR op_eq (pv 0) pe_int (nomark _)) (pss_one (ps_expr (pe_fnX BF hr hx (pa_cons (pv 1) pa_nil))))
          (pss_one (ps_if (pt_cmpR op_eq (pv 0) pe_int (nomark _)) (pss_one (ps_expr (pe_fnX BP hr hx (pa_cons (pv 1) pa_nil)))) (pss_one (ps_expr (pe_fnX BR hr hx (pa_cons (pv 1) pa_nil))))))))))))
        (fun v => pss_one (ps_ret pe_bl))) (pss_one (ps_ret pe_bl)), ?_⟩
      have hcase : n = 0 ∨ n = 1 ∨ n = 2 ∨ n = 3 ∨ n = 4 := by omega
      refine ⟨?_, fun e σ' H' g => k _ g⟩
      rcases hcase with rfl | rfl | rfl | rfl | rfl
      · refine ⟨_, rfl, rfl, _, rfl, ifY rfl ?_⟩
        exact ⟨_, rfl, len0, fun p hp => ⟨a, p, ts, js, rfl, J.new hp, gd, h64, fun e H' g => ((Grow.refl _ _).new hp).trans g⟩⟩
      · refine ⟨_, rfl, rfl, _, rfl, ifN (by intro z; cases z) ?_⟩
        refine ⟨_, rfl, rfl, _, rfl, ifY rfl ?_⟩
        exact ⟨_, rfl, a, ts, js, rfl, J, gd, h64, fun e H' g => g⟩
      · refine ⟨_, rfl, rfl, _, rfl, ifN (by intro z; cases z) ?_⟩
        refine ⟨_, rfl, rfl, _, rfl, ifN (by intro z; cases z) ?_⟩
        refine ⟨_, rfl, rfl, _, rfl, ifY rfl ?_⟩
        exact ⟨_, rfl, a, ts, js, rfl, J, gd, h64, fun e H' g => g⟩
      · refine ⟨_, rfl, rfl, _, rfl, ifN (by intro z; cases z) ?_⟩
        refine ⟨_, rfl, rfl, _, rfl, ifN (by intro z; cases z) ?_⟩
        refine ⟨_, rfl, rfl, _, rfl, ifN (by intro z; cases z) ?_⟩
        refine ⟨_, rfl, rfl, _, rfl, ifY rfl ?_⟩
        exact ⟨_, rfl, a, ts, js, rfl, J, gd, h64, fun e H' g => g⟩
      · refine ⟨_, rfl, rfl, _, rfl, ifN (by intro z; cases z) ?_⟩
        refine ⟨_, rfl, rfl, _, rfl, ifN (by intro z; cases z) ?_⟩
        refine ⟨_, rfl, rfl, _, rfl, ifN (by intro z; cases z) ?_⟩
        refine ⟨_, rfl, rfl, _, rfl, ifN (by intro z; cases z) ?_⟩
        exact ⟨_, rfl, a, ts, js, rfl, J, gd, h64, fun e H' g => g⟩
/-! ### base_tells -/
def spTells (Ts : List Tab) (T1 T2 : Tab) : Sp := fun vs H Q _ => ∃ (a : Addr) (ts : List Addr) (js : List Job), vs = [.ref a] ∧ JobsAt H a ts js ∧ js.length < 64 ∧ TabOk T1 H ∧ TabOk T2 H ∧
  (Good js → ∀ H', Grow Ts H H' → Q (.bl false) H') ∧ (¬ Good js → ∀ H', Grow Ts H H' → Q (.bl true) H')
theorem btVE : bootBuiltins "ValueError" = some (.type "ValueError") := by decide +kernel
theorem scTells : FnScope ["_law_jobs", "e"] ["_law_jobs"] (defScope sTells) := ⟨rfl, rfl, rfl, by decide +kernel, rfl, by decide +kernel, by decide +kernel⟩
theorem ok_tells {f : Addr} {fd : FuncData} (F : Fun K "_law_base_tells" "_law_base_tells" sTells f fd) (B : Bare mg) {T1 T2 : Tab} (cS : ExcSub K C CF) (hm : mg "FineError" = some (.ref CF)) (hv : mg "ValueError" = none) (hi : PySem.W.kitCls K (.ref C) (.type "ValueError") = some true)
    (GC : Fn P w K mg base "chosen" 5 ["jobs"] (spChosen Ts T1 T2)) (BC : FnX P w K mg base C "chosen" 3 ["jobs"] (spBad Ts)) : FnOk P w K mg base CX0 7 f fd ["_law_jobs"] (spTells Ts T1 T2) := by
  refine F.ok scTells (fun vs H Q E h => ?_) (fun cdv A outer s H vs Q E hr h => ?_)
  · obtain ⟨a, ts, js, rfl, _⟩ := h
    rfl
  · obtain ⟨a, ts, js, rfl, J, h64, tk1, tk2, k1, k2⟩ := h
    by_cases gd : Good js
    · refine ⟨_, pss_cons (ps_tryAs (i := 1) (P := P) (w := w) (C := C) (F := CF) (Ex := fun _ _ _ => False) rfl rfl rfl rfl cS rfl hm scTells.nd rfl rfl rfl (fun pins xe hx => pss_one (ps_expr (pe_fn GC hr (pa_cons (pv 0) pa_nil))))
        (fun x ob ho => pss_one (ps_ret (pe_callB (call_isX ho hi) rfl B.e5 boot_isinstance (pa_cons (pv 1) (pa_cons (pe_bltn rfl hv btVE (v := .ty "ValueError") rfl) pa_nil)))))) (pss_one (ps_ret pe_bl)), ?_⟩
      refine ⟨?_, fun x σ' H' _ z => z.elim⟩
      exact ⟨_, rfl, a, ts, js, rfl, J, gd, h64, tk1, tk2, fun H' A qs g _ _ _ => k1 gd _ g⟩
    · refine ⟨_, pss_cons (ps_tryAs (i := 1) (P := P) (w := w) (C := C) (F := CF) (Ex := fun _ _ H' => Grow Ts H H') rfl rfl rfl rfl cS rfl hm scTells.nd rfl rfl rfl (fun pins xe hx => pss_one (ps_expr (pe_fnX BC hr hx (pa_cons (pv 0) pa_nil))))
        (fun x ob ho => pss_one (ps_ret (pe_callB (call_isX ho hi) rfl B.e5 boot_isinstance (pa_cons (pv 1) (pa_cons (pe_bltn rfl hv btVE (v := .ty "ValueError") rfl) pa_nil)))))) (pss_one (ps_ret pe_bl)), ?_⟩
      refine ⟨?_, fun x σ' H' hl g => ?_⟩
      · exact ⟨_, rfl, a, ts, js, rfl, J, gd, h64, fun e H' g => g⟩
      · exact ⟨.ref x, by rw [List.getElem?_set_self hl], rfl, k2 gd _ g⟩
end
end K6

namespace K6
open PySem L2 Fb PyProof.Rows
abbrev sLaw : Stmt := top 27
section
variable {P : Program} {w : World} {K : PySem.W.Frag} {mg : Str → Option Value} {base : Heap} {Ts : List Tab}
def spLaw (K : PySem.W.Frag) (Ts : List Tab) : Sp := fun vs H Q _ => ∃ (a : Addr) (ns : List Int), vs = [.ref a] ∧ SqL K H a (ns.map V.int) ∧ ns.length ≤ 63 ∧ (∀ T ∈ Ts, TabOk T H) ∧ ∀ H', Q (.bl true) H'
abbrev nLaw : List Str := ["_law_script", "_law_jobs", "_law_way", "_law_spot", "_law_far", "_law_bad", "_law_handed", "_law_turn"]
theorem scLaw : FnScope nLaw ["_law_script"] (defScope sLaw) := ⟨rfl, rfl, rfl, by decide +kernel, rfl, by decide +kernel, by decide +kernel⟩
theorem tab_put {T : Tab} {H : Hp} {a : Addr} {xs ys : List V} (t : TabOk T H) (h : H a = some (.lst xs)) : TabOk T (upd H a (.lst ys)) := by
  rcases t with t | ⟨c, t1, t2⟩
  · exact .inl (by rw [upd_ne (ne_of t h (by intro z; cases z))]; exact t)
  · exact .inr ⟨c, by rw [upd_ne (ne_of t1 h (by intro z; cases z))]; exact t1, by rw [upd_ne (ne_of t2 h (by intro z; cases z))]; exact t2⟩
theorem jobs_ins {H : Hp} {a q : Addr} {ts : List Addr} {js : List Job} {b : Job} (k : Nat) (J : JobsAt H a ts js) (hq : H q = some (.tup [.int b.1, .int b.2])) :
    ∃ us, JobsAt (upd H a (.lst ((ts.map V.ref).take k ++ .ref q :: (ts.map V.ref).drop k))) a us (js.take k ++ b :: js.drop k) := by
  obtain ⟨ps, e1, e2, hp⟩ := J.pairs
  have hp2 : Pairs (upd H a (.lst ((ts.map V.ref).take k ++ .ref q :: (ts.map V.ref).drop k))) (ps.take k ++ (q, b) :: ps.drop k) := fun x hx => by
    have key : H x.1 = some (.tup [.int x.2.1, .int x.2.2]) := by
      rcases List.mem_append.mp hx with z | z
      · exact hp x (List.mem_of_mem_take z)
      · rcases List.mem_cons.mp z with rfl | z
        · exact hq
        · exact hp x (List.mem_of_mem_drop z)
    rw [upd_ne (ne_of key J.lst (by intro z; cases z))]
    exact key
  refine ⟨(ps.take k ++ (q, b) :: ps.drop k).map (·.1), ?_⟩
  have := hp2.jobs (b := a) (by rw [upd_same, e1]; simp [List.map_take, List.map_drop])
  have e3 : (ps.take k ++ (q, b) :: ps.drop k).map (·.2) = js.take k ++ b :: js.drop k := by rw [e2]; simp [List.map_take, List.map_drop]
  rw [e3] at this
  exact this
theorem six {wn : Nat} (h : wn < 6) {H : Hp} {p1 p2 p3 p4 p5 p6 : Addr} {fr : Int} (hf : 0 ≤ fr) (h1 : H p1 = some (.tup [.int 0, .int 5])) (h2 : H p2 = some (.tup [.int 3, .int (-1)])) (h3 : H p3 = some (.tup [.int (-2), .int 4])) (h4 : H p4 = some (.tup [.int 0, .int (-3)]))
    (h5 : H p5 = some (.tup [.int (0 - fr), .int fr])) (h6 : H p6 = some (.tup [.int (1 + fr), .int (-1 - fr)])) : ∃ (q : Addr) (b : Job), atI [V.ref p1, V.ref p2, V.ref p3, V.ref p4, V.ref p5, V.ref p6] (wn : Int) = some (.ref q) ∧ H q = some (.tup [.int b.1, .int b.2]) ∧ ¬ (1 ≤ b.1 ∧ 0 ≤ b.2) := by
  have hc : wn = 0 ∨ wn = 1 ∨ wn = 2 ∨ wn = 3 ∨ wn = 4 ∨ wn = 5 := by omega
  rcases hc with rfl | rfl | rfl | rfl | rfl | rfl
  · exact ⟨p1, (0, 5), rfl, h1, by decide⟩
  · exact ⟨p2, (3, -1), rfl, h2, by decide⟩
  · exact ⟨p3, (-2, 4), rfl, h3, by decide⟩
  · exact ⟨p4, (0, -3), rfl, h4, by decide⟩
  · exact ⟨p5, (0 - fr, fr), rfl, h5, fun z => by have z1 : 1 ≤ 0 - fr := z.1; omega⟩
  · exact ⟨p6, (1 + fr, -1 - fr), rfl, h6, fun z => by have z1 : 0 ≤ -1 - fr := z.2; omega⟩
theorem mod_nat6 (n m : Int) (h : 0 < m) : ∃ k : Nat, n % m = (k : Int) ∧ (k : Int) < m := by
  have h1 := Int.emod_nonneg n (show m ≠ 0 by omega)
  have h2 := Int.emod_lt_of_pos n h
  exact ⟨(n % m).toNat, by omega, by omega⟩
theorem ok_law {f : Addr} {fd : FuncData} (F : Fun K "law" "law" sLaw f fd) (B : Bare mg) {T1 T2 : Tab} (hT1 : T1 ∈ Ts) (hT2 : T2 ∈ Ts)
    (FA : Fn P w K mg base "_law_at" 1 ["_law_script", "_law_k"] (spAt K)) (FRo : Fn P w K mg base "_law_room" 1 ["_law_script", "_law_most", "_law_bound"] (spRoom K)) (FDr : Fn P w K mg base "_law_drawn" 2 ["_law_cells", "_law_wide"] (spDrawn Ts)) (FAn : Fn P w K mg base "_law_any" 1 ["_law_cell"] (spAny Ts))
    (FK : Fn P w K mg base "_law_kept" 2 ["_law_found", "_law_due"] spKept) (FL : Fn P w K mg base "_law_least_fines" 1 ["_law_jobs"] (spLeast Ts)) (FF : Fn P w K mg base "fines" 6 ["jobs"] (spFines Ts T1 T2))
    (FS : Fn P w K mg base "_law_so" 1 ["_law_found", "_law_due"] (spSo Ts)) (FRf : Fn P w K mg base "_law_refuses" 7 ["_law_way", "_law_jobs"] (spRefuses Ts T1 T2)) (FBt : Fn P w K mg base "_law_base_tells" 7 ["_law_jobs"] (spTells Ts T1 T2)) :
    FnOk P w K mg base CX0 9 f fd ["_law_script"] (spLaw K Ts) := by
  refine F.ok scLaw (fun vs H Q E h => ?_) (fun cdv A outer s H vs Q E hr h => ?_)
  · obtain ⟨a, ns, rfl, _⟩ := h
    rfl
  · obtain ⟨sc, ns, rfl, hs, h63, hTs, k⟩ := h
    refine ⟨_, pss_cons (ps_set (i := 1) scLaw.nd rfl (Or.inl rfl) (pe_fn FDr hr (pa_cons (pe_slice sl_list (pv 0) (po_some pe_int) (po_some (pe_op op_add pe_int (pe_fn FRo hr (pa_cons (pv 0) (pa_cons pe_int (pa_cons pe_int pa_nil))))))) (pa_cons (pe_op op_add pe_int (pe_op op_mod (pe_fn FA hr (pa_cons (pv 0) (pa_cons pe_int pa_nil))) pe_int)) pa_nil))))
      (pss_cons (ps_set (i := 2) scLaw.nd rfl (Or.inl rfl) (pe_op op_mod (pe_fn FA hr (pa_cons (pv 0) (pa_cons pe_int pa_nil))) pe_int))
      (pss_cons (ps_set (i := 3) scLaw.nd rfl (Or.inl rfl) (pe_op op_mod (pe_op op_fdiv (pe_fn FA hr (pa_cons (pv 0) (pa_cons pe_int pa_nil))) pe_int) (pe_op op_add (pe_callB call_len_seq rfl B.e4 boot_len (pa_cons (pv 1) pa_nil)) pe_int)))
      (pss_cons (ps_set (i := 4) scLaw.nd rfl (Or.inl rfl) (pe_callB call_abs rfl B.e12 boot_abs (pa_cons (pe_fn FAn hr (pa_cons (pe_fn FA hr (pa_cons (pv 0) (pa_cons pe_int pa_nil))) pa_nil)) pa_nil)))
      (pss_cons (ps_set (i := 5) scLaw.nd rfl (Or.inl rfl) (pe_lst (pa_cons (pe_tup (pa_cons pe_int (pa_cons pe_int pa_nil))) (pa_cons (pe_tup (pa_cons pe_int (pa_cons (pe_un un_neg pe_int) pa_nil))) (pa_cons (pe_tup (pa_cons (pe_un un_neg pe_int) (pa_cons pe_int pa_nil))) (pa_cons (pe_tup (pa_cons pe_int (pa_cons (pe_un un_neg pe_int) pa_nil)))
          (pa_cons (pe_tup (pa_cons (pe_op op_sub pe_int (pv 4)) (pa_cons (pv 4) pa_nil))) (pa_cons (pe_tup (pa_cons (pe_op op_add pe_int (pv 4)) (pa_cons (pe_op op_sub (pe_un un_neg pe_int) (pv 4)) pa_nil))) pa_nil))))))))
      (pss_cons (ps_cut (ps_if (pt_cmpR op_lt (pv 2) pe_int (nomark _)) (pss_one (ps_expr (pe_insert (pv 1) (pv 3) (pe_ix ix_list (pv 5) (pv 2) (fun _ _ => rfl))))) pss_nil))
      (pss_cons (ps_set (i := 6) scLaw.nd rfl (Or.inl rfl) (pe_callTy call_list_of rfl B.e6 btList (pa_cons (pv 1) pa_nil)))
      (pss_cons (ps_for PassesOwn.never rfl (pi_range1 rfl B.e3 (pa_cons pe_int pa_nil)) (pg_name (i := 7) scLaw.nd rfl (Or.inl rfl))
        (pss_one (ps_if (pt_cmpR op_ne (pe_fn FRf hr (pa_cons (pv 7) (pa_cons (pv 6) pa_nil))) (pe_cmpR op_lt (pv 2) pe_int (nomark _)) (nomark _)) pss_never pss_nil)))
      (pss_cons (ps_if (pt_cmpR op_ne (pe_fn FBt hr (pa_cons (pv 6) pa_nil)) (pe_cmpR op_lt (pv 2) pe_int (nomark _)) (nomark _)) pss_never pss_nil)
      (pss_cons (ps_if (pt_not (pt_val (pe_fn FK hr (pa_cons (pv 6) (pa_cons (pv 1) pa_nil))))) pss_never pss_nil)
      (pss_one (ps_ret (pe_or (pe_cmpR op_lt (pv 2) pe_int (nomark _)) (pe_one (pe_fn FS hr (pa_cons (pe_fn FF hr (pa_cons (pv 6) pa_nil)) (pa_cons (pe_fn FL hr (pa_cons (pv 1) pa_nil)) pa_nil)))))))))))))))), ?_⟩
    obtain ⟨ms, hms, hml⟩ := cut_ints ns (some 2) (some (2 + 20))
    have hlen20 : ms.length ≤ 20 := by
      have := congrArg List.length hms
      rw [List.length_map] at this
      unfold cutV at this
      rw [List.length_take, List.length_drop, List.length_map] at this
      have e3 := HT.clip_eq 2 ns.length 0
      have e23 := HT.clip_eq (2 + 20) ns.length ns.length
      rw [if_neg (by omega)] at e3 e23
      omega
    refine ⟨_, rfl, 2, rfl, _, rfl, sc, _, _, _, rfl, hs, by rw [List.length_map]; exact h63, _, _, rfl, rfl, _, rfl, sc, _, rfl, hs, fun c hc => ?_⟩
    rw [hms]
    have g0 : Grow Ts H (upd H c (.lst (ms.map V.int))) := (Grow.refl _ _).new hc
    refine ⟨_, rfl, sc, ns, 0, rfl, g0.sq hs, _, _, rfl, rfl, by show (0 : Int) < 30; decide, _, _, rfl, rfl, c, ms, _, rfl, upd_same, by omega, ?_, fun H1 aj ts js g1 J1 gd hjl => ?_⟩
    · have := Int.emod_nonneg (ns.getD 0 0) (show (30 : Int) ≠ 0 by decide)
      show 0 < 1 + (ns.getD 0 0) % 30
      omega
    have hj : js.length < 63 := by omega
    have G1 := g0.trans g1
    -- the way, the spot, the far number
    obtain ⟨wn, hwn, hw8⟩ := mod_nat6 (ns.getD 1 0) 8 (by decide)
    refine ⟨_, rfl, sc, ns, 1, rfl, G1.sq hs, _, _, rfl, rfl, by show (0 : Int) < 8; decide, ?_⟩
    show gName 2 (V.int ((ns.getD 1 0) % 8)) _ _ _
    rw [hwn]
    obtain ⟨sp, hsp, hsl⟩ := mod_nat6 ((ns.getD 1 0) / 8) ((((ts.map V.ref).length : Nat) : Int) + 1) (by omega)
    rw [List.length_map, J1.len] at hsl
    refine ⟨_, rfl, sc, ns, 1, rfl, G1.sq hs, _, _, rfl, rfl, ⟨by decide, by decide⟩, _, rfl, aj, _, rfl, .inl (SqL.of J1.lst), _, _, rfl, rfl, _, _, rfl, rfl, by show (0 : Int) < (((ts.map V.ref).length : Nat) : Int) + 1; omega, ?_⟩
    show gName 3 (V.int (((ns.getD 1 0) / 8) % ((((ts.map V.ref).length : Nat) : Int) + 1))) _ _ _
    rw [hsp]
    refine ⟨_, rfl, sc, ns, 2, rfl, G1.sq hs, _, rfl, fun H2 m g2 => ⟨_, rfl, ?_⟩⟩
    obtain ⟨fr, hfr, hf0⟩ : ∃ fr : Int, fr = (if m < 0 then -m else m) ∧ 0 ≤ fr := ⟨_, rfl, abs_pos m⟩
    show gName 4 (V.int (if m < 0 then -m else m)) _ _ _
    rw [← hfr]
    have G2 := G1.trans g2
    have J2 := J1.grow g2
    -- the jobs that are no jobs
    refine ⟨len2, fun p1 hp1 => ⟨_, rfl, len2, fun p2 hp2 => ⟨_, rfl, len2, fun p3 hp3 => ⟨_, rfl, len2, fun p4 hp4 => ?_⟩⟩⟩⟩
    refine ⟨_, rfl, _, _, rfl, rfl, _, rfl, len2, fun p5 hp5 => ?_⟩
    refine ⟨_, rfl, _, _, rfl, rfl, _, rfl, _, rfl, _, _, rfl, rfl, len2, fun p6 hp6 => ?_⟩
    refine ⟨le_sz (by show 6 ≤ 64; decide), fun L hL => ?_⟩
    obtain ⟨H3, e3⟩ : ∃ H3, H3 = upd (upd (upd (upd (upd (upd (upd H2 p1 (.tup [.int 0, .int 5])) p2 (.tup [.int 3, .int (-1)])) p3 (.tup [.int (-2), .int 4])) p4 (.tup [.int 0, .int (-3)])) p5 (.tup [.int (0 - fr), .int fr])) p6 (.tup [.int (1 + fr), .int (-1 - fr)])) L (.lst [.ref p1, .ref p2, .ref p3, .ref p4, .ref p5, .ref p6]) := ⟨_, rfl⟩
    have s7 := Same.new (o := .lst [.ref p1, .ref p2, .ref p3, .ref p4, .ref p5, .ref p6]) hL
    have s6 := Same.new (o := .tup [.int (1 + fr), .int (-1 - fr)]) hp6
    have s5 := Same.new (o := .tup [.int (0 - fr), .int fr]) hp5
    have s4 := Same.new (o := .tup [.int 0, .int (-3)]) hp4
    have s3 := Same.new (o := .tup [.int (-2), .int 4]) hp3
    have s2 := Same.new (o := .tup [.int 3, .int (-1)]) hp2
    have s1 := Same.new (o := .tup [.int 0, .int 5]) hp1
    have t6 := s7
    have t5 := s6.trans s7
    have t4 := s5.trans t5
    have t3 := s4.trans t4
    have t2 := s3.trans t3
    have t1 := s2.trans t2
    have t0 := s1.trans t1
    have q1 := t1 _ _ (upd_same (H := H2) (a := p1) (o := .tup [.int 0, .int 5]))
    have q2 := t2 _ _ upd_same
    have q3 := t3 _ _ upd_same
    have q4 := t4 _ _ upd_same
    have q5 := t5 _ _ upd_same
    have q6 := t6 _ _ upd_same
    rw [← e3] at q1 q2 q3 q4 q5 q6 t0
    have hL3 : H3 L = some (.lst [.ref p1, .ref p2, .ref p3, .ref p4, .ref p5, .ref p6]) := by rw [e3]; exact upd_same
    show tSeq _ _ _ _ (upd (upd (upd (upd (upd (upd (upd H2 p1 (.tup [.int 0, .int 5])) p2 (.tup [.int 3, .int (-1)])) p3 (.tup [.int (-2), .int 4])) p4 (.tup [.int 0, .int (-3)])) p5 (.tup [.int (0 - fr), .int fr])) p6 (.tup [.int (1 + fr), .int (-1 - fr)])) L (.lst [.ref p1, .ref p2, .ref p3, .ref p4, .ref p5, .ref p6]))
    rw [← e3]
    have G3 : Grow Ts H H3 := G2.trans (.of_same t0)
    have J3 := J2.same t0
    have hk1 := G3.tabs T1 hT1 (hTs T1 hT1)
    have hk2 := G3.tabs T2 hT2 (hTs T2 hT2)
    -- one more, or none
    refine ⟨fun σ H' => ∃ (us : List Addr) (js' : List Job), σ = [some (.ref sc), some (.ref aj), some (.int (wn : Int)), some (.int (sp : Int)), some (.int fr), some (.ref L), none, none] ∧ JobsAt H' aj us js' ∧ js'.length < 64 ∧ ((wn : Int) < 6 → ¬ Good js') ∧ (¬ (wn : Int) < 6 → Good js') ∧ TabOk T1 H' ∧ TabOk T2 H', ?_, ?_⟩
    rotate_left
    · refine ⟨_, rfl, _, _, rfl, rfl, _, rfl, ifD (fun hc => ?_) (fun hc => ?_)⟩
      · obtain ⟨q, b, hat, hqb, hbad⟩ := six (wn := wn) (by have : (wn : Int) < 6 := hc; omega) hf0 q1 q2 q3 q4 q5 q6
        refine ⟨_, rfl, .inl ⟨rfl, _, SqL.of J3.lst⟩, _, rfl, _, rfl, _, rfl, L, _, _, _, rfl, rfl, SqL.of hL3, hat, aj, _, sp, _, rfl, rfl, J3.lst, by rw [List.length_map, J3.len]; omega, by rw [List.length_map, J3.len]; omega, ?_⟩
        obtain ⟨us, Ji⟩ := jobs_ins sp J3 hqb
        refine ⟨us, _, rfl, Ji, ?_, fun _ g => hbad (g b (by simp)), fun z => absurd hc z, tab_put hk1 J3.lst, tab_put hk2 J3.lst⟩
        rw [List.length_append, List.length_cons, List.length_take, List.length_drop]
        omega
      · exact ⟨ts, js, rfl, J3, by omega, fun z => absurd z hc, fun _ => gd, hk1, hk2⟩
    rintro σ H4 ⟨us, js', rfl, J4, h64, hbd, hgd, hk1', hk2'⟩
    -- handed in
    refine ⟨_, rfl, aj, _, rfl, .inl (SqL.of J4.lst), fun hd hhd => ?_⟩
    have g5 : Grow Ts H4 (upd H4 hd (.lst (us.map V.ref))) := (Grow.refl _ _).new hhd
    have Jh := J4.copy hhd
    have J5 := J4.grow g5
    have k1 := g5.tabs T1 hT1 hk1'
    have k2 := g5.tabs T2 hT2 hk2'
    obtain ⟨H5, e5⟩ : ∃ H5, H5 = upd H4 hd (.lst (us.map V.ref)) := ⟨_, rfl⟩
    rw [← e5] at Jh J5 k1 k2 ⊢
    refine ⟨_, rfl, by decide, by decide, ?_⟩
    refine for_range (lo := 0) (fun i σ H' => ∃ v7, σ = [some (.ref sc), some (.ref aj), some (.int (wn : Int)), some (.int (sp : Int)), some (.int fr), some (.ref L), some (.ref hd), v7] ∧ Grow Ts H5 H') ⟨none, rfl, Grow.refl _ _⟩ ?_ ?_
    · rintro i σ H' hi ⟨v7, rfl, g6⟩
      have ei : (0 : Int) + (i : Int) = (i : Int) := by omega
      rw [ei]
      refine ⟨_, rfl, _, rfl, hd, us, js', i, rfl, by omega, Jh.grow g6, h64, g6.tabs T1 hT1 k1, g6.tabs T2 hT2 k2, fun gg H7 g7 => ?_, fun gg H7 g7 => ?_⟩
      · have hw : ¬ (wn : Int) < 6 := fun z => hbd z gg
        exact ⟨_, rfl, _, _, rfl, rfl, rfl, _, rfl, iteNS (by show V.bl false = V.bl (decide ((wn : Int) < 6)); rw [decide_eq_false hw]) ⟨_, rfl, g6.trans g7⟩⟩
      · have hw : (wn : Int) < 6 := Decidable.byContradiction fun z => gg (hgd z)
        exact ⟨_, rfl, _, _, rfl, rfl, rfl, _, rfl, iteNS (by show V.bl true = V.bl (decide ((wn : Int) < 6)); rw [decide_eq_true hw]) ⟨_, rfl, g6.trans g7⟩⟩
    rintro σ H6 ⟨v7, rfl, g6⟩
    have fin : ∀ H7, Grow Ts H6 H7 → True := fun _ _ => trivial
    refine ⟨_, rfl, hd, us, js', rfl, Jh.grow g6, h64, g6.tabs T1 hT1 k1, g6.tabs T2 hT2 k2, fun gg H7 g7 => ?_, fun gg H7 g7 => ?_⟩
    · have hw : ¬ (wn : Int) < 6 := fun z => hbd z gg
      have g67 := g6.trans g7
      refine ⟨_, rfl, _, _, rfl, rfl, rfl, _, rfl, iteNS (by show V.bl false = V.bl (decide ((wn : Int) < 6)); rw [decide_eq_false hw]) ?_⟩
      refine ⟨_, rfl, _, rfl, aj, hd, us, js', rfl, J5.grow g67, Jh.grow g67, h64, _, rfl, iteF ?_⟩
      refine ⟨_, rfl, _, _, rfl, rfl, _, rfl, ifN hw ?_⟩
      refine ⟨_, rfl, hd, us, js', rfl, Jh.grow g67, gg, h64, g67.tabs T1 hT1 k1, g67.tabs T2 hT2 k2, fun H8 g8 => ?_⟩
      refine ⟨_, rfl, aj, us, js', rfl, (J5.grow g67).grow g8, gg, h64, fun H9 g9 => ?_⟩
      exact ⟨_, rfl, fun H10 _ => k _⟩
    · have hw : (wn : Int) < 6 := Decidable.byContradiction fun z => gg (hgd z)
      have g67 := g6.trans g7
      refine ⟨_, rfl, _, _, rfl, rfl, rfl, _, rfl, iteNS (by show V.bl true = V.bl (decide ((wn : Int) < 6)); rw [decide_eq_true hw]) ?_⟩
      refine ⟨_, rfl, _, rfl, aj, hd, us, js', rfl, J5.grow g67, Jh.grow g67, h64, _, rfl, iteF ?_⟩
      exact ⟨_, rfl, _, _, rfl, rfl, _, rfl, ifY hw (k _)⟩
end
end K6

namespace K6
open PySem L2 Fb PyProof.Rows
theorem all_mk {pr : Program} {w : World} {K : PySem.W.Frag} {h : Heap} {mg : Str → Option Value} {tl : List Addr} {fa f0 f1 f2 f3 f4 f5 f6 f7 f8 f9 f10 f11 f12 f13 f14 f15 f16 f17 f18 f19 f20 f21 ca1 ca5 P1 P2 CN CF : Addr} (X : K.In h) (G : h.Ns mainGlobals mg) (hfa : mg "law" = some (.ref fa))
    {od0 an0 od1 an1 od2 an2 od3 an3 od4 an4 od5 an5 od6 an6 od7 an7 od8 an8 od9 an9 od10 an10 od11 an11 od12 an12 od13 an13 od14 an14 od15 an15 od16 an16 od17 an17 od18 an18 od19 an19 od20 an20 od21 an21 : Option Addr} {sl0 sl1 sl2 sl3 sl4 sl5 sl6 sl7 sl8 sl9 sl10 sl11 sl12 sl13 sl14 sl15 sl16 sl17 sl18 sl19 sl20 sl21 : Array (Option Value)} {oc0 kV0 dc0 pm0 ct0 oc1 kV1 dc1 pm1 ct1 oc2 kV2 dc2 pm2 ct2 oc3 kV3 dc3 pm3 ct3 oc4 kV4 dc4 pm4 ct4 oc5 kV5 dc5 pm5 ct5 oc6 kV6 dc6 pm6 ct6 oc7 kV7 dc7 pm7 ct7 oc8 kV8 dc8 pm8 ct8 oc9 kV9 dc9 pm9 ct9 oc10 kV10 dc10 pm10 ct10 oc11 kV11 dc11 pm11 ct11 oc12 kV12 dc12 pm12 ct12 oc13 kV13 dc13 pm13 ct13 oc14 kV14 dc14 pm14 ct14 oc15 kV15 dc15 pm15 ct15 oc16 kV16 dc16 pm16 ct16 oc17 kV17 dc17 pm17 ct17 oc18 kV18 dc18 pm18 ct18 oc19 kV19 dc19 pm19 ct19 oc20 kV20 dc20 pm20 ct20 oc21 kV21 dc21 pm21 ct21 cd0 cd2 cd3 cd4 cd6 cd7 cd8 cd9 cd10 cd11 cd12 cd13 cd14 cd15 cd16 cd17 cd18 cd19 cd20 cd21 : Value}
    (a0 : PySem.W.nsIn K mainGlobals "check_jobs" = some (some (.ref f0))) (l0 : K.lookup f0 = some ⟨oc0, od0, .func (PySem.W.fnOf "check_jobs" "check_jobs" (defArgs sCheck) (defBody sCheck) (defScope sCheck) .none kV0 dc0 pm0 an0 cd0 ct0), sl0⟩) (c0 : PySem.W.codeIn K cd0 "check_jobs" = true) (k0 : PySem.W.keepIn K (.ref f0) = true)
    (a1 : PySem.W.nsIn K mainGlobals "by_end" = some (some (.ref f1))) (l1 : K.lookup f1 = some ⟨oc1, od1, .func (PySem.W.fnOf "by_end" "by_end" (defArgs sByEnd) (defBody sByEnd) (defScope sByEnd) .none kV1 dc1 pm1 an1 (.ref ca1) ct1), sl1⟩) (c1 : PySem.W.codeIn K (.ref ca1) "by_end" = true) (k1 : PySem.W.keepIn K (.ref f1) = true)
    (a2 : PySem.W.nsIn K mainGlobals "ending_by" = some (some (.ref f2))) (l2 : K.lookup f2 = some ⟨oc2, od2, .func (PySem.W.fnOf "ending_by" "ending_by" (defArgs sEnding) (defBody sEnding) (defScope sEnding) .none kV2 dc2 pm2 an2 cd2 ct2), sl2⟩) (c2 : PySem.W.codeIn K cd2 "ending_by" = true) (k2 : PySem.W.keepIn K (.ref f2) = true)
    (a3 : PySem.W.nsIn K mainGlobals "order_or_tick" = some (some (.ref f3))) (l3 : K.lookup f3 = some ⟨oc3, od3, .func (PySem.W.fnOf "order_or_tick" "order_or_tick" (defArgs sOrder) (defBody sOrder) (defScope sOrder) .none kV3 dc3 pm3 an3 cd3 ct3), sl3⟩) (c3 : PySem.W.codeIn K cd3 "order_or_tick" = true) (k3 : PySem.W.keepIn K (.ref f3) = true)
    (a4 : PySem.W.nsIn K mainGlobals "in_time" = some (some (.ref f4))) (l4 : K.lookup f4 = some ⟨oc4, od4, .func (PySem.W.fnOf "in_time" "in_time" (defArgs sInTime) (defBody sInTime) (defScope sInTime) .none kV4 dc4 pm4 an4 cd4 ct4), sl4⟩) (c4 : PySem.W.codeIn K cd4 "in_time" = true) (k4 : PySem.W.keepIn K (.ref f4) = true)
    (a5 : PySem.W.nsIn K mainGlobals "by_falling_fine" = some (some (.ref f5))) (l5 : K.lookup f5 = some ⟨oc5, od5, .func (PySem.W.fnOf "by_falling_fine" "by_falling_fine" (defArgs sFall) (defBody sFall) (defScope sFall) .none kV5 dc5 pm5 an5 (.ref ca5) ct5), sl5⟩) (c5 : PySem.W.codeIn K (.ref ca5) "by_falling_fine" = true) (k5 : PySem.W.keepIn K (.ref f5) = true)
    (a6 : PySem.W.nsIn K mainGlobals "settle" = some (some (.ref f6))) (l6 : K.lookup f6 = some ⟨oc6, od6, .func (PySem.W.fnOf "settle" "settle" (defArgs sSettle) (defBody sSettle) (defScope sSettle) .none kV6 dc6 pm6 an6 cd6 ct6), sl6⟩) (c6 : PySem.W.codeIn K cd6 "settle" = true) (k6 : PySem.W.keepIn K (.ref f6) = true)
    (a7 : PySem.W.nsIn K mainGlobals "chosen" = some (some (.ref f7))) (l7 : K.lookup f7 = some ⟨oc7, od7, .func (PySem.W.fnOf "chosen" "chosen" (defArgs sChosen) (defBody sChosen) (defScope sChosen) .none kV7 dc7 pm7 an7 cd7 ct7), sl7⟩) (c7 : PySem.W.codeIn K cd7 "chosen" = true) (k7 : PySem.W.keepIn K (.ref f7) = true)
    (a8 : PySem.W.nsIn K mainGlobals "plan" = some (some (.ref f8))) (l8 : K.lookup f8 = some ⟨oc8, od8, .func (PySem.W.fnOf "plan" "plan" (defArgs sPlan) (defBody sPlan) (defScope sPlan) .none kV8 dc8 pm8 an8 cd8 ct8), sl8⟩) (c8 : PySem.W.codeIn K cd8 "plan" = true) (k8 : PySem.W.keepIn K (.ref f8) = true)
    (a9 : PySem.W.nsIn K mainGlobals "fines" = some (some (.ref f9))) (l9 : K.lookup f9 = some ⟨oc9, od9, .func (PySem.W.fnOf "fines" "fines" (defArgs sFines) (defBody sFines) (defScope sFines) .none kV9 dc9 pm9 an9 cd9 ct9), sl9⟩) (c9 : PySem.W.codeIn K cd9 "fines" = true) (k9 : PySem.W.keepIn K (.ref f9) = true)
    (a10 : PySem.W.nsIn K mainGlobals "reasons" = some (some (.ref f10))) (l10 : K.lookup f10 = some ⟨oc10, od10, .func (PySem.W.fnOf "reasons" "reasons" (defArgs sReasons) (defBody sReasons) (defScope sReasons) .none kV10 dc10 pm10 an10 cd10 ct10), sl10⟩) (c10 : PySem.W.codeIn K cd10 "reasons" = true) (k10 : PySem.W.keepIn K (.ref f10) = true)
    (a11 : PySem.W.nsIn K mainGlobals "_law_whole" = some (some (.ref f11))) (l11 : K.lookup f11 = some ⟨oc11, od11, .func (PySem.W.fnOf "_law_whole" "_law_whole" (defArgs sWhole) (defBody sWhole) (defScope sWhole) .none kV11 dc11 pm11 an11 cd11 ct11), sl11⟩) (c11 : PySem.W.codeIn K cd11 "_law_whole" = true) (k11 : PySem.W.keepIn K (.ref f11) = true)
    (a12 : PySem.W.nsIn K mainGlobals "_law_at" = some (some (.ref f12))) (l12 : K.lookup f12 = some ⟨oc12, od12, .func (PySem.W.fnOf "_law_at" "_law_at" (defArgs sAt) (defBody sAt) (defScope sAt) .none kV12 dc12 pm12 an12 cd12 ct12), sl12⟩) (c12 : PySem.W.codeIn K cd12 "_law_at" = true) (k12 : PySem.W.keepIn K (.ref f12) = true)
    (a13 : PySem.W.nsIn K mainGlobals "_law_drawn" = some (some (.ref f13))) (l13 : K.lookup f13 = some ⟨oc13, od13, .func (PySem.W.fnOf "_law_drawn" "_law_drawn" (defArgs sDrawn) (defBody sDrawn) (defScope sDrawn) .none kV13 dc13 pm13 an13 cd13 ct13), sl13⟩) (c13 : PySem.W.codeIn K cd13 "_law_drawn" = true) (k13 : PySem.W.keepIn K (.ref f13) = true)
    (a14 : PySem.W.nsIn K mainGlobals "_law_kept" = some (some (.ref f14))) (l14 : K.lookup f14 = some ⟨oc14, od14, .func (PySem.W.fnOf "_law_kept" "_law_kept" (defArgs sKept) (defBody sKept) (defScope sKept) .none kV14 dc14 pm14 an14 cd14 ct14), sl14⟩) (c14 : PySem.W.codeIn K cd14 "_law_kept" = true) (k14 : PySem.W.keepIn K (.ref f14) = true)
    (a15 : PySem.W.nsIn K mainGlobals "_law_refuses" = some (some (.ref f15))) (l15 : K.lookup f15 = some ⟨oc15, od15, .func (PySem.W.fnOf "_law_refuses" "_law_refuses" (defArgs sRefuses) (defBody sRefuses) (defScope sRefuses) .none kV15 dc15 pm15 an15 cd15 ct15), sl15⟩) (c15 : PySem.W.codeIn K cd15 "_law_refuses" = true) (k15 : PySem.W.keepIn K (.ref f15) = true)
    (a16 : PySem.W.nsIn K mainGlobals "_law_least_fines" = some (some (.ref f16))) (l16 : K.lookup f16 = some ⟨oc16, od16, .func (PySem.W.fnOf "_law_least_fines" "_law_least_fines" (defArgs sLeast) (defBody sLeast) (defScope sLeast) .none kV16 dc16 pm16 an16 cd16 ct16), sl16⟩) (c16 : PySem.W.codeIn K cd16 "_law_least_fines" = true) (k16 : PySem.W.keepIn K (.ref f16) = true)
    (a17 : PySem.W.nsIn K mainGlobals "_law_room" = some (some (.ref f17))) (l17 : K.lookup f17 = some ⟨oc17, od17, .func (PySem.W.fnOf "_law_room" "_law_room" (defArgs sRoom) (defBody sRoom) (defScope sRoom) .none kV17 dc17 pm17 an17 cd17 ct17), sl17⟩) (c17 : PySem.W.codeIn K cd17 "_law_room" = true) (k17 : PySem.W.keepIn K (.ref f17) = true)
    (a18 : PySem.W.nsIn K mainGlobals "_law_base_tells" = some (some (.ref f18))) (l18 : K.lookup f18 = some ⟨oc18, od18, .func (PySem.W.fnOf "_law_base_tells" "_law_base_tells" (defArgs sTells) (defBody sTells) (defScope sTells) .none kV18 dc18 pm18 an18 cd18 ct18), sl18⟩) (c18 : PySem.W.codeIn K cd18 "_law_base_tells" = true) (k18 : PySem.W.keepIn K (.ref f18) = true)
    (a19 : PySem.W.nsIn K mainGlobals "_law_any" = some (some (.ref f19))) (l19 : K.lookup f19 = some ⟨oc19, od19, .func (PySem.W.fnOf "_law_any" "_law_any" (defArgs sAny) (defBody sAny) (defScope sAny) .none kV19 dc19 pm19 an19 cd19 ct19), sl19⟩) (c19 : PySem.W.codeIn K cd19 "_law_any" = true) (k19 : PySem.W.keepIn K (.ref f19) = true)
    (a20 : PySem.W.nsIn K mainGlobals "_law_so" = some (some (.ref f20))) (l20 : K.lookup f20 = some ⟨oc20, od20, .func (PySem.W.fnOf "_law_so" "_law_so" (defArgs sSo) (defBody sSo) (defScope sSo) .none kV20 dc20 pm20 an20 cd20 ct20), sl20⟩) (c20 : PySem.W.codeIn K cd20 "_law_so" = true) (k20 : PySem.W.keepIn K (.ref f20) = true)
    (a21 : PySem.W.nsIn K mainGlobals "law" = some (some (.ref f21))) (l21 : K.lookup f21 = some ⟨oc21, od21, .func (PySem.W.fnOf "law" "law" (defArgs sLaw) (defBody sLaw) (defScope sLaw) .none kV21 dc21 pm21 an21 cd21 ct21), sl21⟩) (c21 : PySem.W.codeIn K cd21 "law" = true) (k21 : PySem.W.keepIn K (.ref f21) = true)
    {oq1 : Value} {dq1 : Option Addr} {vq1 : Array Value} {sq1 : Array (Option Value)} (t1 : K.lookup ca1 = some ⟨oq1, dq1, .fields vq1, sq1⟩) (v1 : vq1[11]? = some (.ref P1)) (u1 : PySem.W.codeHdIn K ca1 P1 = true)
    {oq2 : Value} {dq2 : Option Addr} {vq2 : Array Value} {sq2 : Array (Option Value)} (t2 : K.lookup ca5 = some ⟨oq2, dq2, .fields vq2, sq2⟩) (v2 : vq2[11]? = some (.ref P2)) (u2 : PySem.W.codeHdIn K ca5 P2 = true)
    (z1 : PySem.W.nsIn K mainGlobals "enumerate" = some none)
    (z2 : PySem.W.nsIn K mainGlobals "sorted" = some none)
    (z3 : PySem.W.nsIn K mainGlobals "range" = some none)
    (z4 : PySem.W.nsIn K mainGlobals "len" = some none)
    (z5 : PySem.W.nsIn K mainGlobals "isinstance" = some none)
    (z6 : PySem.W.nsIn K mainGlobals "list" = some none)
    (z7 : PySem.W.nsIn K mainGlobals "tuple" = some none)
    (z8 : PySem.W.nsIn K mainGlobals "int" = some none)
    (z9 : PySem.W.nsIn K mainGlobals "bool" = some none)
    (z10 : PySem.W.nsIn K mainGlobals "str" = some none)
    (z11 : PySem.W.nsIn K mainGlobals "reversed" = some none)
    (z12 : PySem.W.nsIn K mainGlobals "abs" = some none)
    (z13 : PySem.W.nsIn K mainGlobals "sum" = some none)
    (b1 : PySem.W.nsIn K mainGlobals "NoJob" = some (some (.ref CN)))
    (b2 : PySem.W.nsIn K mainGlobals "FineError" = some (some (.ref CF)))
    (b3 : PySem.W.excIn K CN [.type "ValueError", .type "Exception", .type "BaseException", .type "object"] "ValueError.__new__" = true)
    (b4 : PySem.W.excIn K CF [.type "ValueError", .type "Exception", .type "BaseException", .type "object"] "ValueError.__new__" = true)
    (b5 : PySem.W.mroIn K CN (.ref CF) = some true)
    (b6 : PySem.W.kitCls K (.ref CN) (.type "ValueError") = some true)
    (b7 : PySem.W.nsIn K mainGlobals "ValueError" = some none)
    (ne : (P1 == P2) = false)
    (m1 : P1 ∈ tl)
    (m2 : P2 ∈ tl)
    : ∃ (Ts : List Tab) (fd : FuncData), (∀ T ∈ Ts, T.P ∈ tl ∧ ∃ c, PySem.W.CodeHd h c T.P) ∧ (∀ (s : Shared) (u : Value), BindsTo s fd ⟨[u], []⟩ [("_law_script", u)]) ∧
      ∀ base : Heap, K.In base → base.Ns mainGlobals mg → BMain mg base → FnOk pr w K mg base CX0 9 fa fd ["_law_script"] (spLaw K Ts) := by
  have e := hfa.symm.trans (PySem.W.mg_of X G a21)
  cases e
  have B : Bare mg := ⟨PySem.W.mg_none_of X G z1, PySem.W.mg_none_of X G z2, PySem.W.mg_none_of X G z3, PySem.W.mg_none_of X G z4, PySem.W.mg_none_of X G z5, PySem.W.mg_none_of X G z6, PySem.W.mg_none_of X G z7, PySem.W.mg_none_of X G z8, PySem.W.mg_none_of X G z9, PySem.W.mg_none_of X G z10, PySem.W.mg_none_of X G z11, PySem.W.mg_none_of X G z12, PySem.W.mg_none_of X G z13⟩
  have hne : P1 ≠ P2 := fun z => by rw [z, beq_self_eq_true] at ne; cases ne
  refine ⟨[tabE P1, tabF P2], PySem.W.fnOf "law" "law" (defArgs sLaw) (defBody sLaw) (defScope sLaw) .none kV21 dc21 pm21 an21 cd21 ct21, fun T hm => ?_, ?_, fun base kb nb bm => ?_⟩
  · rcases List.mem_cons.mp hm with rfl | hm
    · exact ⟨m1, _, PySem.W.codeHd_of_K X u1⟩
    · rw [List.mem_singleton.mp hm]; exact ⟨m2, _, PySem.W.codeHd_of_K X u2⟩
  rotate_left
  · have CH1 := PySem.W.codeHd_of_K kb u1
    have CH2 := PySem.W.codeHd_of_K kb u2
    obtain ⟨Ts, hTs⟩ : ∃ Ts : List Tab, Ts = [tabE P1, tabF P2] := ⟨_, rfl⟩
    rw [← hTs]
    have hT1 : tabE P1 ∈ Ts := by rw [hTs]; simp
    have hT2 : tabF P2 ∈ Ts := by rw [hTs]; simp
    have hTs1 : ∀ T' ∈ Ts, T' = tabE P1 ∨ T'.P ≠ (tabE P1).P := fun T' hm => by
      rw [hTs] at hm
      rcases List.mem_cons.mp hm with rfl | hm
      · exact .inl rfl
      · rw [List.mem_singleton.mp hm]; exact .inr (fun z => hne z.symm)
    have hTs2 : ∀ T' ∈ Ts, T' = tabF P2 ∨ T'.P ≠ (tabF P2).P := fun T' hm => by
      rw [hTs] at hm
      rcases List.mem_cons.mp hm with rfl | hm
      · exact .inr (fun z => hne z)
      · rw [List.mem_singleton.mp hm]; exact .inl rfl
    have cN : ExcC K CN := ⟨b3⟩
    have cS : ExcSub K CN CF := ⟨⟨b3⟩, ⟨b4⟩, b5⟩
    have hmN := PySem.W.mg_of X G b1
    have hmF := PySem.W.mg_of X G b2
    have hvE := PySem.W.mg_none_of X G b7
    have F_check_jobs : Fn pr w K mg base "check_jobs" 1 ["jobs"] (spCheck Ts) := ⟨_, _, ok_check (fun_mk (st := sCheck) l0 c0 k0) B, PySem.W.mg_of X G a0, k0, (fun_mk (st := sCheck) l0 c0 k0).binds fun _ _ _ _ _ _ us hl => match us, hl with | [_], _ => rfl⟩
    have F_by_end : Fn pr w K mg base "by_end" 2 ["jobs", "places"] (spByEnd Ts (tabE P1)) := ⟨_, _, ok_byEnd l1 c1 B bm CH1 hTs1, PySem.W.mg_of X G a1, k1, (fun_mk (st := sByEnd) l1 c1 k1).binds fun _ _ _ _ _ _ us hl => match us, hl with | [_, _], _ => rfl⟩
    have F_ending_by : Fn pr w K mg base "ending_by" 1 ["jobs", "places", "tick"] (spEnding Ts) := ⟨_, _, ok_ending (fun_mk (st := sEnding) l2 c2 k2) B, PySem.W.mg_of X G a2, k2, (fun_mk (st := sEnding) l2 c2 k2).binds fun _ _ _ _ _ _ us hl => match us, hl with | [_, _, _], _ => rfl⟩
    have F_order_or_tick : Fn pr w K mg base "order_or_tick" 3 ["jobs", "places"] (spOrder Ts (tabE P1)) := ⟨_, _, ok_order (fun_mk (st := sOrder) l3 c3 k3) B hT1 F_by_end F_ending_by, PySem.W.mg_of X G a3, k3, (fun_mk (st := sOrder) l3 c3 k3).binds fun _ _ _ _ _ _ us hl => match us, hl with | [_, _], _ => rfl⟩
    have F_in_time : Fn pr w K mg base "in_time" 4 ["jobs", "places"] (spInTime Ts (tabE P1)) := ⟨_, _, ok_inTime (fun_mk (st := sInTime) l4 c4 k4) hT1 F_check_jobs F_order_or_tick, PySem.W.mg_of X G a4, k4, (fun_mk (st := sInTime) l4 c4 k4).binds fun _ _ _ _ _ _ us hl => match us, hl with | [_, _], _ => rfl⟩
    have F_by_falling_fine : Fn pr w K mg base "by_falling_fine" 2 ["jobs"] (spFall Ts (tabF P2)) := ⟨_, _, ok_fall l5 c5 B bm CH2 hTs2, PySem.W.mg_of X G a5, k5, (fun_mk (st := sFall) l5 c5 k5).binds fun _ _ _ _ _ _ us hl => match us, hl with | [_], _ => rfl⟩
    have F_settle : Fn pr w K mg base "settle" 4 ["jobs"] (spSettle Ts (tabE P1) (tabF P2)) := ⟨_, _, ok_settle (fun_mk (st := sSettle) l6 c6 k6) B hT1 hT2 F_check_jobs F_by_falling_fine F_order_or_tick, PySem.W.mg_of X G a6, k6, (fun_mk (st := sSettle) l6 c6 k6).binds fun _ _ _ _ _ _ us hl => match us, hl with | [_], _ => rfl⟩
    have F_chosen : Fn pr w K mg base "chosen" 5 ["jobs"] (spChosen Ts (tabE P1) (tabF P2)) := ⟨_, _, ok_chosen (fun_mk (st := sChosen) l7 c7 k7) F_settle, PySem.W.mg_of X G a7, k7, (fun_mk (st := sChosen) l7 c7 k7).binds fun _ _ _ _ _ _ us hl => match us, hl with | [_], _ => rfl⟩
    have F_plan : Fn pr w K mg base "plan" 6 ["jobs"] (spPlan Ts (tabE P1) (tabF P2)) := ⟨_, _, ok_plan (fun_mk (st := sPlan) l8 c8 k8) hT1 F_by_end F_chosen, PySem.W.mg_of X G a8, k8, (fun_mk (st := sPlan) l8 c8 k8).binds fun _ _ _ _ _ _ us hl => match us, hl with | [_], _ => rfl⟩
    have F_reasons : Fn pr w K mg base "reasons" 5 ["jobs"] (spReasons Ts (tabE P1) (tabF P2)) := ⟨_, _, ok_reasons (fun_mk (st := sReasons) l10 c10 k10) F_settle, PySem.W.mg_of X G a10, k10, (fun_mk (st := sReasons) l10 c10 k10).binds fun _ _ _ _ _ _ us hl => match us, hl with | [_], _ => rfl⟩
    have F_fines : Fn pr w K mg base "fines" 6 ["jobs"] (spFines Ts (tabE P1) (tabF P2)) := ⟨_, _, ok_fines (fun_mk (st := sFines) l9 c9 k9) B F_reasons, PySem.W.mg_of X G a9, k9, (fun_mk (st := sFines) l9 c9 k9).binds fun _ _ _ _ _ _ us hl => match us, hl with | [_], _ => rfl⟩
    have F__law_whole : Fn pr w K mg base "_law_whole" 1 ["_law_found"] (spWhole) := ⟨_, _, ok_whole (fun_mk (st := sWhole) l11 c11 k11) B, PySem.W.mg_of X G a11, k11, (fun_mk (st := sWhole) l11 c11 k11).binds fun _ _ _ _ _ _ us hl => match us, hl with | [_], _ => rfl⟩
    have F__law_at : Fn pr w K mg base "_law_at" 1 ["_law_script", "_law_k"] (spAt K) := ⟨_, _, ok_at (fun_mk (st := sAt) l12 c12 k12) B, PySem.W.mg_of X G a12, k12, (fun_mk (st := sAt) l12 c12 k12).binds fun _ _ _ _ _ _ us hl => match us, hl with | [_, _], _ => rfl⟩
    have F__law_any : Fn pr w K mg base "_law_any" 1 ["_law_cell"] (spAny Ts) := ⟨_, _, ok_any (fun_mk (st := sAny) l19 c19 k19), PySem.W.mg_of X G a19, k19, (fun_mk (st := sAny) l19 c19 k19).binds fun _ _ _ _ _ _ us hl => match us, hl with | [_], _ => rfl⟩
    have F__law_drawn : Fn pr w K mg base "_law_drawn" 2 ["_law_cells", "_law_wide"] (spDrawn Ts) := ⟨_, _, ok_drawn (fun_mk (st := sDrawn) l13 c13 k13) B F__law_any, PySem.W.mg_of X G a13, k13, (fun_mk (st := sDrawn) l13 c13 k13).binds fun _ _ _ _ _ _ us hl => match us, hl with | [_, _], _ => rfl⟩
    have F__law_kept : Fn pr w K mg base "_law_kept" 2 ["_law_found", "_law_due"] (spKept) := ⟨_, _, ok_kept (fun_mk (st := sKept) l14 c14 k14) B F__law_whole, PySem.W.mg_of X G a14, k14, (fun_mk (st := sKept) l14 c14 k14).binds fun _ _ _ _ _ _ us hl => match us, hl with | [_, _], _ => rfl⟩
    have F__law_least_fines : Fn pr w K mg base "_law_least_fines" 1 ["_law_jobs"] (spLeast Ts) := ⟨_, _, ok_least (fun_mk (st := sLeast) l16 c16 k16) B, PySem.W.mg_of X G a16, k16, (fun_mk (st := sLeast) l16 c16 k16).binds fun _ _ _ _ _ _ us hl => match us, hl with | [_], _ => rfl⟩
    have F__law_room : Fn pr w K mg base "_law_room" 1 ["_law_script", "_law_most", "_law_bound"] (spRoom K) := ⟨_, _, ok_room (fun_mk (st := sRoom) l17 c17 k17) B, PySem.W.mg_of X G a17, k17, (fun_mk (st := sRoom) l17 c17 k17).binds fun _ _ _ _ _ _ us hl => match us, hl with | [_, _, _], _ => rfl⟩
    have F__law_so : Fn pr w K mg base "_law_so" 1 ["_law_found", "_law_due"] (spSo Ts) := ⟨_, _, ok_so (fun_mk (st := sSo) l20 c20 k20) B, PySem.W.mg_of X G a20, k20, (fun_mk (st := sSo) l20 c20 k20).binds fun _ _ _ _ _ _ us hl => match us, hl with | [_, _], _ => rfl⟩
    have X_check_jobs : FnX pr w K mg base CN "check_jobs" 1 ["jobs"] (spBad Ts) := ⟨_, _, bad_check (fun_mk (st := sCheck) l0 c0 k0) B cN hmN, PySem.W.mg_of X G a0, k0, (fun_mk (st := sCheck) l0 c0 k0).binds fun _ _ _ _ _ _ us hl => match us, hl with | [_], _ => rfl⟩
    have X_settle : FnX pr w K mg base CN "settle" 2 ["jobs"] (spBad Ts) := ⟨_, _, bad_settle (fun_mk (st := sSettle) l6 c6 k6) X_check_jobs, PySem.W.mg_of X G a6, k6, (fun_mk (st := sSettle) l6 c6 k6).binds fun _ _ _ _ _ _ us hl => match us, hl with | [_], _ => rfl⟩
    have X_chosen : FnX pr w K mg base CN "chosen" 3 ["jobs"] (spBad Ts) := ⟨_, _, bad_chosen (fun_mk (st := sChosen) l7 c7 k7) X_settle, PySem.W.mg_of X G a7, k7, (fun_mk (st := sChosen) l7 c7 k7).binds fun _ _ _ _ _ _ us hl => match us, hl with | [_], _ => rfl⟩
    have X_reasons : FnX pr w K mg base CN "reasons" 3 ["jobs"] (spBad Ts) := ⟨_, _, bad_reasons (fun_mk (st := sReasons) l10 c10 k10) X_settle, PySem.W.mg_of X G a10, k10, (fun_mk (st := sReasons) l10 c10 k10).binds fun _ _ _ _ _ _ us hl => match us, hl with | [_], _ => rfl⟩
    have X_plan : FnX pr w K mg base CN "plan" 4 ["jobs"] (spBad Ts) := ⟨_, _, bad_plan (fun_mk (st := sPlan) l8 c8 k8) F_by_end X_chosen, PySem.W.mg_of X G a8, k8, (fun_mk (st := sPlan) l8 c8 k8).binds fun _ _ _ _ _ _ us hl => match us, hl with | [_], _ => rfl⟩
    have X_fines : FnX pr w K mg base CN "fines" 4 ["jobs"] (spBad Ts) := ⟨_, _, bad_fines (fun_mk (st := sFines) l9 c9 k9) B X_reasons, PySem.W.mg_of X G a9, k9, (fun_mk (st := sFines) l9 c9 k9).binds fun _ _ _ _ _ _ us hl => match us, hl with | [_], _ => rfl⟩
    have X_in_time : FnX pr w K mg base CN "in_time" 2 ["jobs", "places"] (spBad2 Ts) := ⟨_, _, bad_inTime (fun_mk (st := sInTime) l4 c4 k4) X_check_jobs, PySem.W.mg_of X G a4, k4, (fun_mk (st := sInTime) l4 c4 k4).binds fun _ _ _ _ _ _ us hl => match us, hl with | [_, _], _ => rfl⟩
    have F__law_refuses : Fn pr w K mg base "_law_refuses" 7 ["_law_way", "_law_jobs"] (spRefuses Ts (tabE P1) (tabF P2)) := ⟨_, _, ok_refuses (fun_mk (st := sRefuses) l15 c15 k15) cN hmN F_in_time F_chosen F_fines F_plan F_reasons X_in_time X_chosen X_fines X_plan X_reasons, PySem.W.mg_of X G a15, k15, (fun_mk (st := sRefuses) l15 c15 k15).binds fun _ _ _ _ _ _ us hl => match us, hl with | [_, _], _ => rfl⟩
    have F__law_base_tells : Fn pr w K mg base "_law_base_tells" 7 ["_law_jobs"] (spTells Ts (tabE P1) (tabF P2)) := ⟨_, _, ok_tells (fun_mk (st := sTells) l18 c18 k18) B cS hmF hvE b6 F_chosen X_chosen, PySem.W.mg_of X G a18, k18, (fun_mk (st := sTells) l18 c18 k18).binds fun _ _ _ _ _ _ us hl => match us, hl with | [_], _ => rfl⟩
    exact ok_law (fun_mk (st := sLaw) l21 c21 k21) B hT1 hT2 F__law_at F__law_room F__law_drawn F__law_any F__law_kept F__law_least_fines F_fines F__law_so F__law_refuses F__law_base_tells
  · exact fun s u => .of_eq rfl
end K6
open PySem PySem.W PyProof.Rows
set_option maxRecDepth 100000 in
set_option maxHeartbeats 0 in
theorem PySem.Challenge.cw_finebook_k06_no_job_holds : PySem.Challenge.rw_finebook_k06_no_job.Holds := by
  w_on; o_law; k_head; (case hw => w_witness2)
  k_fill
  refine L2.walk_T (l := PySem.Challenge.rw_finebook_k06_no_job) (n := 63) (k := 9) (x := "_law_script") (spL := K6.spLaw) rfl (by decide) rfl ⟨rfl, by decide, by decide⟩ (fun w h Y => PySem.W.km_in_of Y) (fun w h Y => PySem.W.km_tabs_of Y) (fun P => by kernel_rfl) ?F (fun K Ts H a ns hl h1 h2 hS => ⟨a, ns, rfl, hS, hl, fun T hm => .inl (h1 T hm), fun _ => rfl⟩)
  case F =>
    intro w mg fa h KX G hmg
    refine' K6.all_mk KX G hmg ?a0 ?l0 ?c0 ?k0 ?a1 ?l1 ?c1 ?k1 ?a2 ?l2 ?c2 ?k2 ?a3 ?l3 ?c3 ?k3 ?a4 ?l4 ?c4 ?k4 ?a5 ?l5 ?c5 ?k5 ?a6 ?l6 ?c6 ?k6 ?a7 ?l7 ?c7 ?k7 ?a8 ?l8 ?c8 ?k8 ?a9 ?l9 ?c9 ?k9 ?a10 ?l10 ?c10 ?k10 ?a11 ?l11 ?c11 ?k11 ?a12 ?l12 ?c12 ?k12 ?a13 ?l13 ?c13 ?k13 ?a14 ?l14 ?c14 ?k14 ?a15 ?l15 ?c15 ?k15 ?a16 ?l16 ?c16 ?k16 ?a17 ?l17 ?c17 ?k17 ?a18 ?l18 ?c18 ?k18 ?a19 ?l19 ?c19 ?k19 ?a20 ?l20 ?c20 ?k20 ?a21 ?l21 ?c21 ?k21 ?t1 ?v1 ?u1 ?t2 ?v2 ?u2 ?z1 ?z2 ?z3 ?z4 ?z5 ?z6 ?z7 ?z8 ?z9 ?z10 ?z11 ?z12 ?z13 ?b1 ?b2 ?b3 ?b4 ?b5 ?b6 ?b7 ?ne ?m1 ?m2
    (case a0 => k_is)
    (case l0 => k_is)
    (case c0 => k_is)
    (case k0 => k_is)
    (case a1 => k_is)
    (case l1 => k_is)
    (case c1 => k_is)
    (case k1 => k_is)
    (case a2 => k_is)
    (case l2 => k_is)
    (case c2 => k_is)
    (case k2 => k_is)
    (case a3 => k_is)
    (case l3 => k_is)
    (case c3 => k_is)
    (case k3 => k_is)
    (case a4 => k_is)
    (case l4 => k_is)
    (case c4 => k_is)
    (case k4 => k_is)
    (case a5 => k_is)
    (case l5 => k_is)
    (case c5 => k_is)
    (case k5 => k_is)
    (case a6 => k_is)
    (case l6 => k_is)
    (case c6 => k_is)
    (case k6 => k_is)
    (case a7 => k_is)
    (case l7 => k_is)
    (case c7 => k_is)
    (case k7 => k_is)
    (case a8 => k_is)
    (case l8 => k_is)
    (case c8 => k_is)
    (case k8 => k_is)
    (case a9 => k_is)
    (case l9 => k_is)
    (case c9 => k_is)
    (case k9 => k_is)
    (case a10 => k_is)
    (case l10 => k_is)
    (case c10 => k_is)
    (case k10 => k_is)
    (case a11 => k_is)
    (case l11 => k_is)
    (case c11 => k_is)
    (case k11 => k_is)
    (case a12 => k_is)
    (case l12 => k_is)
    (case c12 => k_is)
    (case k12 => k_is)
    (case a13 => k_is)
    (case l13 => k_is)
    (case c13 => k_is)
    (case k13 => k_is)
    (case a14 => k_is)
    (case l14 => k_is)
    (case c14 => k_is)
    (case k14 => k_is)
    (case a15 => k_is)
    (case l15 => k_is)
    (case c15 => k_is)
    (case k15 => k_is)
    (case a16 => k_is)
    (case l16 => k_is)
    (case c16 => k_is)
    (case k16 => k_is)
    (case a17 => k_is)
    (case l17 => k_is)
    (case c17 => k_is)
    (case k17 => k_is)
    (case a18 => k_is)
    (case l18 => k_is)
    (case c18 => k_is)
    (case k18 => k_is)
    (case a19 => k_is)
    (case l19 => k_is)
    (case c19 => k_is)
    (case k19 => k_is)
    (case a20 => k_is)
    (case l20 => k_is)
    (case c20 => k_is)
    (case k20 => k_is)
    (case a21 => k_is)
    (case l21 => k_is)
    (case c21 => k_is)
    (case k21 => k_is)
    (case t1 => k_is)
    (case v1 => rfl)
    (case u1 => kernel_rfl)
    (case t2 => k_is)
    (case v2 => rfl)
    (case u2 => kernel_rfl)
    (case z1 => k_is)
    (case z2 => k_is)
    (case z3 => k_is)
    (case z4 => k_is)
    (case z5 => k_is)
    (case z6 => k_is)
    (case z7 => k_is)
    (case z8 => k_is)
    (case z9 => k_is)
    (case z10 => k_is)
    (case z11 => k_is)
    (case z12 => k_is)
    (case z13 => k_is)
    (case b1 => k_is)
    (case b2 => k_is)
    (case b3 => kernel_rfl)
    (case b4 => kernel_rfl)
    (case b5 => kernel_rfl)
    (case b6 => kernel_rfl)
    (case b7 => k_is)
    (case ne => rfl)
    (case m1 => k_mem)
    (case m2 => k_mem)
#print axioms PySem.Challenge.cw_finebook_k06_no_job_holds

