"""Point 3: what is refused, and where."""

import unittest

from finebook.choosing import chosen, fines, plan, reasons
from finebook.errors import FineError, NoJob
from finebook.jobs import in_time
from tests.helper import LONG

WRONG = [(0, 1), (-1, 1), (-LONG, 4), (1, -1), (3, -LONG), (LONG, -1), (0, -1), (-2, -3), (0, 0)]
GOOD = [(2, 5), (1, 0), (2, 1), (1, 7)]


def five_functions():
    return [
        ("in_time of none", lambda jobs: in_time(jobs, [])),
        ("in_time of all", lambda jobs: in_time(jobs, list(range(len(jobs))))),
        ("chosen", chosen),
        ("plan", plan),
        ("fines", fines),
        ("reasons", reasons),
    ]


class Errors(unittest.TestCase):
    def test_the_classes_stand_under_one_another(self):
        self.assertEqual(FineError.__bases__, (ValueError,))
        self.assertEqual(NoJob.__bases__, (FineError,))

    def test_a_wrong_job_is_refused_at_each_place_by_each_function(self):
        for name, function in five_functions():
            for wrong in WRONG:
                for place in range(len(GOOD) + 1):
                    jobs = GOOD[:place] + [wrong] + GOOD[place:]
                    with self.subTest(function=name, jobs=jobs):
                        with self.assertRaises(NoJob):
                            function(jobs)

    def test_a_wrong_job_alone_is_refused(self):
        for name, function in five_functions():
            for wrong in WRONG:
                with self.subTest(function=name, wrong=wrong):
                    with self.assertRaises(NoJob):
                        function([wrong])

    def test_several_wrong_jobs_are_refused(self):
        for name, function in five_functions():
            with self.subTest(function=name):
                with self.assertRaises(NoJob):
                    function(WRONG + GOOD + WRONG)

    def test_a_wrong_job_in_a_hundred_is_refused(self):
        for name, function in five_functions():
            for place in (0, 50, 99):
                jobs = [(50, 2)] * 100
                jobs[place] = (0, 2)
                with self.subTest(function=name, place=place):
                    with self.assertRaises(NoJob):
                        function(jobs)

    def test_in_time_refuses_for_a_job_that_is_not_asked_about(self):
        for wrong in WRONG:
            with self.subTest(wrong=wrong):
                with self.assertRaises(NoJob):
                    in_time(GOOD + [wrong], [0])
                with self.assertRaises(NoJob):
                    in_time([wrong] + GOOD, [2, 1])

    def test_the_refusal_can_be_taken_as_each_of_its_kinds(self):
        for kind in (NoJob, FineError, ValueError):
            for name, function in five_functions():
                with self.subTest(kind=kind, function=name):
                    with self.assertRaises(kind):
                        function([(1, 1), (0, 1)])

    def test_the_edges_are_no_wrong_jobs(self):
        for job in [(1, 0), (1, 1), (2, 0), (LONG, 0), (1, LONG), (LONG, LONG), (10 * LONG, 10 * LONG)]:
            for name, function in five_functions():
                with self.subTest(job=job, function=name):
                    function([job])
                    function([job, job])

    def test_a_refusal_changes_nothing(self):
        for name, function in five_functions():
            jobs = GOOD + [(0, 1)]
            with self.subTest(function=name):
                with self.assertRaises(NoJob):
                    function(jobs)
                self.assertEqual(jobs, GOOD + [(0, 1)])
