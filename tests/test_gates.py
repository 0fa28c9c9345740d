"""[14]: wishes, their numbers, arrivals and releases."""

import random
import unittest

from plain import plain_jobs, random_plan, random_wishes
from promptworks.errors import BadWork, NoTask
from promptworks.gates import let_in
from promptworks.plans import Plan
from promptworks.tasks import Task

GREAT = 10 ** 12


def small():
    return Plan([Task("b", rank=1, gap=10, most=3, wait=4), Task("a", rank=2, gap=5, most=2),
                 Task("c", rank=3, gap=3, most=1, wait=7)])


class TestLetIn(unittest.TestCase):
    def test_by_ranks_then_numbers(self):
        told = let_in(small(), [(30, "a", 1), (2, "c", 1), (12, "b", 3), (0, "a", 2), (40, "b", 1)])
        self.assertEqual(told, [("b", 0, 12, 8, 12, 3), ("b", 1, 40, 36, 40, 1), ("a", 0, 0, 0, 0, 2),
                                ("a", 1, 30, 30, 30, 1), ("c", 0, 2, -5, 2, 1)])

    def test_arrivals_of_the_first_may_be_below_0(self):
        self.assertEqual(let_in(small(), [(0, "b", 1)]), [("b", 0, 0, -4, 0, 1)])
        self.assertEqual(let_in(small(), [(0, "b", 1), (0, "c", 1), (0, "c", 1)], gate=False),
                         [("b", 0, 0, -4, 0, 1), ("c", 0, 0, -7, 0, 1), ("c", 1, 0, -4, 0, 1)])

    def test_wishes_of_one_hour_go_by_works(self):
        told = let_in(small(), [(3, "c", 9), (3, "c", 1), (3, "c", 4), (2, "c", 8)])
        self.assertEqual([row[5] for row in told], [8, 1, 4, 9])
        self.assertEqual([row[3] for row in told], [-5, -2, 1, 4])
        self.assertEqual([row[4] for row in told], [2, 3, 3, 4])

    def test_arrivals_are_a_gap_apart_at_least(self):
        self.assertEqual([row[3] for row in let_in(small(), [(hour, "a", 1) for hour in [0, 5, 9, 11, 21, 22]])],
                         [0, 5, 10, 15, 21, 26])
        self.assertEqual([row[3] for row in let_in(small(), [(hour, "b", 1) for hour in [6, 11, 16, 30, 50]])],
                         [2, 12, 22, 32, 46])

    def test_gate_shut_and_open(self):
        wishes = [(0, "a", 1), (4, "a", 1), (4, "a", 2), (15, "a", 1)]
        self.assertEqual([row[2:5] for row in let_in(small(), wishes)],
                         [(0, 0, 0), (4, 5, 5), (4, 10, 10), (15, 15, 15)])
        self.assertEqual([row[2:5] for row in let_in(small(), wishes, gate=True)],
                         [(0, 0, 0), (4, 5, 5), (4, 10, 10), (15, 15, 15)])
        self.assertEqual([row[2:5] for row in let_in(small(), wishes, gate=False)],
                         [(0, 0, 0), (4, 5, 4), (4, 10, 4), (15, 15, 15)])

    def test_of_none(self):
        self.assertEqual(let_in(small(), []), [])
        self.assertEqual(let_in(small(), ()), [])
        self.assertEqual(let_in(Plan(), []), [])
        with self.assertRaises(NoTask):
            let_in(Plan(), [(0, "a", 1)])

    def test_refused_by_the_first_wrong_one(self):
        for rows, error, fields in [
                ([(0, "z", 1)], NoTask, {"name": "z"}),
                ([(0, "a", 0)], BadWork, {"work": 0}),
                ([(0, "a", -3)], BadWork, {"work": -3}),
                ([(0, "z", 0)], NoTask, {"name": "z"}),
                ([(0, "a", 1), (0, "a", -1), (0, "z", 1)], BadWork, {"work": -1}),
                ([(9, "a", 1), (8, "y", 1), (0, "z", 0), (0, "a", 0)], NoTask, {"name": "y"}),
                ([(9, "a", -2), (0, "a", -1)], BadWork, {"work": -2}),
                ([(0, "", 1)], NoTask, {"name": ""})]:
            with self.assertRaises(error) as caught:
                let_in(small(), rows)
            self.assertEqual(vars(caught.exception), fields)

    def test_by_names_and_gate_by_its_name_alone(self):
        self.assertEqual(let_in(plan=small(), wishes=((1, "a", 1),), gate=False), [("a", 0, 1, 1, 1, 1)])
        with self.assertRaises(TypeError):
            let_in(small(), [], False)

    def test_changes_nothing_that_is_handed_in(self):
        wishes = [(9, "a", 1), (0, "c", 1), (0, "a", 2)]
        told = let_in(small(), wishes)
        self.assertEqual(wishes, [(9, "a", 1), (0, "c", 1), (0, "a", 2)])
        told.clear()
        self.assertEqual(len(let_in(small(), wishes)), 3)

    def test_great_numbers(self):
        plan = Plan([Task("a", rank=1, gap=GREAT, most=GREAT, wait=GREAT)])
        self.assertEqual(let_in(plan, [(GREAT, "a", GREAT), (0, "a", 1), (GREAT, "a", 2)]),
                         [("a", 0, 0, -GREAT, 0, 1), ("a", 1, GREAT, 0, GREAT, 2), ("a", 2, GREAT, GREAT, GREAT, GREAT)])

    def test_against_plain_reckoning(self):
        chance = random.Random(14)
        for _ in range(300):
            plan = random_plan(chance)
            wishes = random_wishes(chance, plan)
            for gate in [True, False]:
                self.assertEqual(let_in(plan, wishes, gate=gate),
                                 [(job.task.name, job.number, job.hour, job.arrival, job.release, job.work)
                                  for job in plain_jobs(plan.tasks(), wishes, gate)])


if __name__ == "__main__":
    unittest.main()
