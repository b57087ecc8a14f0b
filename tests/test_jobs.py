"""Points 2, 4 and 5: what a job is, and which jobs can all be done in time."""

import unittest
from itertools import permutations

from finebook.jobs import in_time
from tests.helper import (
    LONG, done_in_time, ending_by, every_subset, hundred_lists, mixed_lists, small_lists,
    some_order_is_in_time, too_many_end_somewhere,
)


def with_ends(*ends):
    return [(end, 1) for end in ends]


class InTime(unittest.TestCase):
    def check_order(self, jobs, places, answer):
        self.assertIs(type(answer), tuple)
        self.assertEqual(len(answer), 2)
        self.assertEqual(answer[0], "order")
        self.assertIs(type(answer[1]), list)
        self.assertEqual(sorted(answer[1]), sorted(places))
        self.assertTrue(done_in_time(jobs, answer[1]), (jobs, places, answer))

    def check_tick(self, jobs, places, answer):
        self.assertIs(type(answer), tuple)
        self.assertEqual(len(answer), 3)
        self.assertEqual(answer[0], "tick")
        self.assertIs(type(answer[1]), int)
        self.assertGreaterEqual(answer[1], 1)
        self.assertIs(type(answer[2]), list)
        self.assertEqual(answer[2], ending_by(jobs, places, answer[1]))
        self.assertGreater(len(answer[2]), answer[1])

    def check(self, jobs, places):
        answer = in_time(jobs, places)
        if too_many_end_somewhere(jobs, places):
            self.check_tick(jobs, places, answer)
        else:
            self.check_order(jobs, places, answer)
        return answer[0]

    def test_the_example_of_the_document(self):
        self.assertEqual(in_time(with_ends(2, 1, 2), [0, 1, 2]), ("tick", 2, [0, 1, 2]))
        self.assertEqual(in_time(with_ends(2, 1, 2), [2, 0, 1]), ("tick", 2, [0, 1, 2]))

    def test_two_jobs_of_the_example_are_in_time(self):
        jobs = with_ends(2, 1, 2)
        self.assertEqual(in_time(jobs, [0, 1]), ("order", [1, 0]))
        self.assertEqual(in_time(jobs, [2, 1]), ("order", [1, 2]))
        self.check_order(jobs, [0, 2], in_time(jobs, [0, 2]))

    def test_no_places(self):
        for jobs in [[], [(1, 0)], with_ends(1, 1, 1), with_ends(*[9] * 100)]:
            self.assertEqual(in_time(jobs, []), ("order", []))

    def test_one_place_is_in_time_up_to_its_end(self):
        for end in (1, 2, LONG):
            self.assertEqual(in_time([(end, 0)], [0]), ("order", [0]))
        self.assertEqual(in_time(with_ends(1, 1, 1), [2]), ("order", [2]))

    def test_the_end_counts_too(self):
        for count in (1, 2, 3, 10, 100):
            jobs = with_ends(*[count] * count)
            self.assertEqual(self.check(jobs, list(range(count))), "order")
            self.assertEqual(self.check(jobs + [(count, 1)], list(range(count + 1))), "tick")

    def test_an_end_as_late_as_the_number_of_the_places(self):
        self.assertEqual(in_time(with_ends(4, 1, 3, 2), [0, 1, 2, 3]), ("order", [1, 3, 2, 0]))
        self.assertEqual(in_time(with_ends(4, 1, 3, 3, 3), [4, 3, 2, 1, 0]), ("tick", 3, [1, 2, 3, 4]))

    def test_an_end_far_beyond_the_number_of_the_places(self):
        self.assertEqual(in_time(with_ends(LONG, 1), [0, 1]), ("order", [1, 0]))
        self.assertEqual(in_time(with_ends(LONG, 1, 1), [0, 1, 2]), ("tick", 1, [1, 2]))
        self.assertEqual(in_time(with_ends(LONG - 1, LONG), [1, 0])[0], "order")

    def test_the_row_of_a_tick_holds_only_handed_in_places(self):
        self.assertEqual(in_time(with_ends(1, 1, 1, 1), [3, 1]), ("tick", 1, [1, 3]))

    def test_places_rising_falling_and_mixed(self):
        for jobs in mixed_lists(4, 300, 12):
            rising = list(range(len(jobs)))
            mixed = rising[1::2] + rising[::-2]
            kinds = [self.check(jobs, places) for places in (rising, rising[::-1])]
            kinds.append(self.check(jobs, list(dict.fromkeys(mixed + rising))))
            self.assertEqual(len(set(kinds)), 1)

    def test_every_order_of_some_places(self):
        for jobs in [with_ends(3, 1, 3, 2), with_ends(2, 2, 4, 4), with_ends(1, 4, 1, 3), with_ends(2, 2, 2, 9)]:
            for some in every_subset(jobs):
                for places in permutations(some):
                    self.check(jobs, list(places))

    def test_small_lists_against_every_order(self):
        for jobs in small_lists():
            for places in every_subset(jobs):
                found = self.check(jobs, places)
                self.assertEqual(found == "order", some_order_is_in_time(jobs, places), (jobs, places))

    def test_longer_lists(self):
        for jobs in mixed_lists(5, 400, 30):
            self.check(jobs, list(range(len(jobs))))
            self.check(jobs, list(range(0, len(jobs), 2)))
            self.check(jobs, list(range(0, len(jobs), 3)))

    def test_a_hundred_jobs(self):
        for jobs in hundred_lists():
            self.check(jobs, list(range(len(jobs))))
            self.check(jobs, list(range(len(jobs) - 1, 0, -4)))

    def test_fines_make_no_difference(self):
        for fine in (0, 1, LONG):
            self.assertEqual(in_time([(2, fine), (1, 0)], [0, 1]), ("order", [1, 0]))
            self.assertEqual(in_time([(1, fine), (1, 0)], [0, 1]), ("tick", 1, [0, 1]))

    def test_what_is_handed_in_stays(self):
        for ends in [(3, 1, 2), (1, 1, 3)]:
            jobs = with_ends(*ends)
            places = [2, 0, 1]
            first = in_time(jobs, places)
            first[-1].append(9)
            self.assertEqual(jobs, with_ends(*ends))
            self.assertEqual(places, [2, 0, 1])

    def test_the_same_answer_twice(self):
        for jobs in mixed_lists(6, 100, 10):
            places = list(range(len(jobs)))
            self.assertEqual(in_time(jobs, places), in_time(list(jobs), list(places)))
