"""What the tests ask the answers by: written anew from the document, not drawn from the package."""

from itertools import combinations, permutations, product

LONG = 10 ** 60 - 1


def done_in_time(jobs, order):
    return all(tick <= jobs[place][0] for tick, place in enumerate(order, start=1))


def some_order_is_in_time(jobs, places):
    return any(done_in_time(jobs, order) for order in permutations(places))


def ending_by(jobs, places, tick):
    return [place for place in sorted(places) if jobs[place][0] <= tick]


def too_many_end_somewhere(jobs, places):
    # Only ticks at which some job ends can be the first with too many.
    return any(len(ending_by(jobs, places, jobs[place][0])) > jobs[place][0] for place in places)


def every_subset(jobs):
    places = range(len(jobs))
    return [list(some) for size in range(len(jobs) + 1) for some in combinations(places, size)]


def fines_of(jobs, places):
    return sum(jobs[place][1] for place in places)


def least_fines_by_trying(jobs):
    whole = fines_of(jobs, range(len(jobs)))
    feasible = [some for some in every_subset(jobs) if not too_many_end_somewhere(jobs, some)]
    return whole - max(fines_of(jobs, some) for some in feasible)


def least_fines_by_table(jobs):
    # saved[k]: the most that k jobs in time save, among the jobs seen so far, by rising ends.
    saved = [0]
    for end, fine in sorted(jobs):
        longer = saved + [-1]
        for done, sofar in enumerate(saved):
            if done + 1 <= end:
                longer[done + 1] = max(longer[done + 1], sofar + fine)
        saved = [worth for worth in longer if worth >= 0]
    return sum(fine for end, fine in jobs) - max(saved)


def small_lists():
    # Every list of up to three jobs out of twelve, and every list of four out of six.
    twelve = [(end, fine) for end in (1, 2, 3, 5) for fine in (0, 1, 3)]
    six = [(end, fine) for end in (1, 2, 3) for fine in (0, 2)]
    for size in range(4):
        for jobs in product(twelve, repeat=size):
            yield list(jobs)
    for jobs in product(six, repeat=4):
        yield list(jobs)


class Numbers:
    """A row of numbers that is the same in every run."""

    def __init__(self, seed):
        self.state = seed

    def below(self, bound):
        # Several steps are joined, so that bounds of sixty figures are filled too.
        drawn = 0
        for step in range(8):
            self.state = (self.state * 6364136223846793005 + 1442695040888963407) % 2 ** 64
            drawn = drawn * 2 ** 32 + (self.state >> 32)
        return drawn % bound


def mixed_list(numbers, size, ends, fines):
    return [(1 + numbers.below(ends), numbers.below(fines)) for place in range(size)]


def mixed_lists(seed, count, longest):
    # From tight ends to wide ones, from few fines to many.
    numbers = Numbers(seed)
    for turn in range(count):
        size = 1 + numbers.below(longest)
        yield mixed_list(numbers, size, 1 + numbers.below(longest + 2), 1 + numbers.below(9))


def hundred_lists():
    numbers = Numbers(100)
    yield mixed_list(numbers, 100, 100, 50)
    yield mixed_list(numbers, 100, 30, 5)
    yield mixed_list(numbers, 100, 130, LONG)
    yield mixed_list(numbers, 100, LONG, LONG)
    yield mixed_list(numbers, 100, 1, 40)
    yield [(7, 3)] * 100
    yield [(end, 100 - end) for end in range(100, 0, -1)]
    yield [(1 + place // 2, place) for place in range(100)]
    # Somewhat beyond what the document bounds: nothing is refused for it.
    yield mixed_list(numbers, 115, 60, 10 ** 63)
