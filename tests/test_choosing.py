"""Points 6 to 10: the choice, the plan, the fines, the reasons, and how the fines move."""

import unittest
from itertools import permutations

from finebook.choosing import chosen, fines, plan, reasons
from tests.helper import (
    LONG, done_in_time, ending_by, fines_of, hundred_lists, least_fines_by_table, least_fines_by_trying,
    mixed_lists, small_lists, too_many_end_somewhere,
)


def left_of(jobs, choice):
    return [place for place in range(len(jobs)) if place not in choice]


class Choosing(unittest.TestCase):
    def check_choice(self, jobs, choice, least):
        self.assertIs(type(choice), list)
        self.assertEqual(choice, sorted(set(choice)))
        self.assertTrue(all(place in range(len(jobs)) for place in choice))
        self.assertFalse(too_many_end_somewhere(jobs, choice), (jobs, choice))
        self.assertEqual(fines_of(jobs, left_of(jobs, choice)), least, (jobs, choice))
        for place in left_of(jobs, choice):
            self.assertTrue(too_many_end_somewhere(jobs, choice + [place]), (jobs, choice, place))

    def check_plan(self, jobs, choice, order):
        self.assertIs(type(order), list)
        self.assertEqual(sorted(order), choice)
        self.assertTrue(done_in_time(jobs, order), (jobs, order))

    def check_reasons(self, jobs, choice, pairs):
        self.assertIs(type(pairs), list)
        self.assertEqual([pair[0] for pair in pairs], left_of(jobs, choice))
        for pair in pairs:
            self.assertIs(type(pair), tuple)
            self.assertEqual(len(pair), 2)
            place, tick = pair
            self.assertIs(type(tick), int)
            self.assertGreaterEqual(tick, jobs[place][0])
            filling = ending_by(jobs, choice, tick)
            self.assertEqual(len(filling), tick, (jobs, choice, pair))
            self.assertTrue(all(jobs[other][1] >= jobs[place][1] for other in filling), (jobs, choice, pair))

    def check(self, jobs, least):
        choice = chosen(jobs)
        self.check_choice(jobs, choice, least)
        self.check_plan(jobs, choice, plan(jobs))
        self.check_reasons(jobs, choice, reasons(jobs))
        told = fines(jobs)
        self.assertIs(type(told), int)
        self.assertEqual(told, least, jobs)

    def test_no_jobs(self):
        self.assertEqual((chosen([]), plan([]), fines([]), reasons([])), ([], [], 0, []))

    def test_one_job(self):
        for job in [(1, 0), (1, 5), (7, 0), (LONG, LONG)]:
            jobs = [job]
            self.assertEqual((chosen(jobs), plan(jobs), fines(jobs), reasons(jobs)), ([0], [0], 0, []))

    def test_a_plain_case(self):
        jobs = [(2, 30), (1, 10), (2, 20), (4, 5)]
        self.assertEqual(chosen(jobs), [0, 2, 3])
        self.assertEqual(fines(jobs), 10)
        self.assertEqual(reasons(jobs), [(1, 2)])
        self.check(jobs, 10)

    def test_a_high_fine_with_a_late_end_does_not_take_the_first_tick(self):
        jobs = [(2, 9), (1, 4)]
        self.assertEqual((chosen(jobs), plan(jobs), fines(jobs), reasons(jobs)), ([0, 1], [1, 0], 0, []))

    def test_a_reason_is_not_a_full_tick_with_lower_fines(self):
        # The ticks 1 and 3 are both filled, but by tick 3 a fine of 1 is done.
        jobs = [(1, 9), (1, 5), (3, 1), (3, 6)]
        self.assertEqual((chosen(jobs), fines(jobs), reasons(jobs)), ([0, 2, 3], 5, [(1, 1)]))

    def test_a_reason_can_be_later_than_the_end(self):
        jobs = [(3, 8), (3, 8), (3, 8), (1, 7)]
        self.assertEqual((chosen(jobs), fines(jobs), reasons(jobs)), ([0, 1, 2], 7, [(3, 3)]))

    def test_fines_of_nought_are_chosen_while_there_is_room(self):
        self.assertEqual(chosen([(1, 0), (2, 0), (3, 0)]), [0, 1, 2])
        self.assertEqual(chosen([(2, 0), (1, 4)]), [0, 1])
        self.check([(1, 0)] * 3, 0)
        self.check([(2, 0), (2, 0), (1, 0), (2, 1)], 0)
        self.assertEqual(len(chosen([(2, 0), (2, 0), (1, 0), (2, 1)])), 2)

    def test_several_jobs_alike(self):
        for count in range(1, 9):
            for end in (1, 2, 5, 8, 9):
                jobs = [(end, 4)] * count
                self.check(jobs, 4 * max(0, count - end))

    def test_ends_and_fines_of_sixty_figures(self):
        self.check([(1, LONG), (1, LONG - 1), (LONG, LONG), (LONG, 0)], LONG - 1)
        self.assertEqual(fines([(1, LONG)] * 3), 2 * LONG)
        # Two great fines that differ by one in the last figure are told apart.
        self.assertEqual(chosen([(1, LONG - 1), (1, LONG)]), [1])
        self.assertEqual(chosen([(1, LONG), (1, LONG - 1)]), [0])

    def test_small_lists_against_every_choice(self):
        for jobs in small_lists():
            self.check(jobs, least_fines_by_trying(jobs))

    def test_mixed_lists_against_every_choice(self):
        for jobs in mixed_lists(1, 150, 9):
            self.check(jobs, least_fines_by_trying(jobs))

    def test_longer_lists_against_a_table(self):
        for jobs in mixed_lists(2, 300, 30):
            self.check(jobs, least_fines_by_table(jobs))

    def test_a_hundred_jobs(self):
        for jobs in hundred_lists():
            self.check(jobs, least_fines_by_table(jobs))

    def test_the_two_ways_to_the_least_fines_agree(self):
        for jobs in mixed_lists(3, 100, 8):
            self.assertEqual(least_fines_by_table(jobs), least_fines_by_trying(jobs))

    def test_what_is_handed_in_stays(self):
        for jobs in mixed_lists(7, 60, 12):
            before = list(jobs)
            for function in (chosen, plan, fines, reasons):
                function(jobs)
                self.assertEqual(jobs, before)

    def test_the_same_answer_twice(self):
        for jobs in mixed_lists(8, 60, 12):
            for function in (chosen, plan, fines, reasons):
                self.assertEqual(function(jobs), function(list(jobs)))

    def test_a_changed_answer_does_not_change_the_next(self):
        jobs = [(1, 3), (1, 2), (2, 5)]
        for function in (chosen, plan, reasons):
            before = list(function(jobs))
            function(jobs).append(77)
            self.assertEqual(function(jobs), before)


class HowFinesMove(unittest.TestCase):
    def check_later_end(self, jobs, place, later):
        end, fine = jobs[place]
        moved = jobs[:place] + [(end + later, fine)] + jobs[place + 1:]
        self.assertLessEqual(fines(moved), fines(jobs), (jobs, moved))

    def check_one_more(self, jobs, place, job):
        more = jobs[:place] + [job] + jobs[place:]
        before = fines(jobs)
        self.assertGreaterEqual(fines(more), before, (jobs, more))
        self.assertLessEqual(fines(more), before + job[1], (jobs, more))

    def test_the_order_makes_no_difference(self):
        for jobs in small_lists():
            told = fines(jobs)
            for other in permutations(jobs):
                self.assertEqual(fines(list(other)), told, (jobs, other))

    def test_the_order_makes_no_difference_to_longer_lists(self):
        for jobs in list(mixed_lists(9, 100, 25)) + list(hundred_lists()):
            told = fines(jobs)
            for other in (jobs[::-1], sorted(jobs), jobs[::2] + jobs[1::2]):
                self.assertEqual(fines(other), told)

    def test_a_later_end(self):
        for jobs in small_lists():
            for place in range(len(jobs)):
                for later in (1, 2, LONG):
                    self.check_later_end(jobs, place, later)

    def test_a_later_end_in_longer_lists(self):
        for jobs in mixed_lists(10, 80, 20):
            for place in range(len(jobs)):
                self.check_later_end(jobs, place, 1)

    def test_one_more_job(self):
        for jobs in small_lists():
            for job in [(1, 0), (1, 2), (2, 1), (3, 9)]:
                self.check_one_more(jobs, 0, job)
                self.check_one_more(jobs, len(jobs), job)

    def test_one_more_job_in_longer_lists(self):
        for jobs in mixed_lists(11, 80, 20):
            for place in range(len(jobs) + 1):
                self.check_one_more(jobs, place, (1 + place // 2, 3))

    def test_one_more_job_can_cost_less_than_its_fine_and_more_than_nought(self):
        self.assertEqual(fines([(1, 4)]), 0)
        self.assertEqual(fines([(1, 4), (1, 9)]), 4)
