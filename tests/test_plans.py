"""[11] Plans, and of [2] and [3] what holds of them."""

import random
import unittest

from plain import plain_ceiling, plain_held_back, random_plan
from promptworks.errors import NoLock, NoTask, Shared, Twice
from promptworks.plans import Plan
from promptworks.tasks import Task


def task(name, rank, sections=(), most=20):
    return Task(name, rank=rank, gap=100, most=most, sections=sections)


class TestPlan(unittest.TestCase):
    def test_tasks_by_rank(self):
        rows = [task("b", 7), task("c", 1), task("a", 10 ** 12), task("d", 3)]
        plan = Plan(rows)
        self.assertEqual([each.name for each in plan.tasks()], ["c", "d", "b", "a"])
        self.assertEqual(plan.tasks(), [rows[1], rows[3], rows[0], rows[2]])
        self.assertEqual(len(plan), 4)
        self.assertEqual([each.name for each in rows], ["b", "c", "a", "d"])
        self.assertEqual(Plan(tuple(rows)).tasks(), plan.tasks())
        self.assertEqual(Plan(tasks=rows).tasks(), plan.tasks())

    def test_one_by_name(self):
        rows = [task("b", 7), task("c", 1, [(0, 3, "x")])]
        plan = Plan(rows)
        self.assertEqual(plan.task("b"), rows[0])
        self.assertEqual(plan.task(name="c"), rows[1])

    def test_none(self):
        for plan in [Plan(), Plan([]), Plan(())]:
            self.assertEqual(plan.tasks(), [])
            self.assertEqual(plan.locks(), [])
            self.assertEqual(len(plan), 0)
            with self.assertRaises(NoTask):
                plan.task("a")

    def test_strangers(self):
        plan = Plan([task("a", 1, [(0, 3, "x")])])
        for name in ["b", "", "A", "x", "a ", "no such task at all", "\u00e9"]:
            with self.assertRaises(NoTask) as caught:
                plan.task(name)
            self.assertEqual(caught.exception.name, name)
            with self.assertRaises(NoTask) as caught:
                plan.held_back(name)
            self.assertEqual(caught.exception.name, name)
        for lock in ["y", "", "a", "X"]:
            with self.assertRaises(NoLock) as caught:
                plan.ceiling(lock)
            self.assertEqual(caught.exception.lock, lock)

    def test_names_that_repeat(self):
        for rows, name in [([task("a", 1), task("a", 2)], "a"),
                           ([task("a", 1), task("b", 2), task("c", 3), task("b", 4), task("a", 5)], "b"),
                           ([task("a", 1), task("a", 1)], "a"),
                           ([task("a", 1), task("b", 2), task("a", 2)], "a"),
                           ([task("a", 1), task("b", 2), task("a", 3), task("c", 1)], "a")]:
            with self.assertRaises(Twice) as caught:
                Plan(rows)
            self.assertEqual(caught.exception.name, name)

    def test_ranks_that_repeat(self):
        for rows, rank in [([task("a", 1), task("b", 1)], 1),
                           ([task("a", 1), task("b", 5), task("c", 5), task("d", 1)], 5),
                           ([task("a", 1), task("b", 2), task("c", 2), task("a", 3)], 2)]:
            with self.assertRaises(Shared) as caught:
                Plan(rows)
            self.assertEqual(caught.exception.rank, rank)

    def test_locks_and_ceilings(self):
        plan = Plan([task("c", 9, [(0, 2, "pump"), (4, 2, "arm")]), task("a", 4, [(0, 2, "pump"), (3, 3, "belt")]),
                     task("b", 6, [(0, 8, "arm"), (1, 2, "belt")]), task("d", 2)])
        self.assertEqual(plan.locks(), ["arm", "belt", "pump"])
        self.assertEqual([plan.ceiling(lock) for lock in plan.locks()], [6, 4, 4])
        self.assertEqual(plan.ceiling(lock="arm"), 6)

    def test_held_back_edges(self):
        plan = Plan([task("top", 1),
                     task("high", 3, [(0, 1, "x")]),
                     task("mid", 5, [(0, 9, "own")]),
                     task("low", 7, [(0, 5, "x"), (6, 7, "y")]),
                     task("last", 8, [(2, 10, "y"), (13, 6, "alone")])])
        told = {each.name: plan.held_back(each.name) for each in plan.tasks()}
        # top: no ceiling is as urgent. high, mid: x of low. low: y of last, its own ceiling. last: nobody is less urgent.
        self.assertEqual(told, {"top": 0, "high": 4, "mid": 4, "low": 9, "last": 0})

    def test_a_section_of_one_tick_holds_nobody_back(self):
        plan = Plan([task("a", 1, [(0, 9, "x")]), task("b", 2, [(0, 1, "x")])])
        self.assertEqual((plan.held_back("a"), plan.held_back("b")), (0, 0))
        plan = Plan([task("a", 1, [(0, 9, "x")]), task("b", 2, [(0, 2, "x")])])
        self.assertEqual((plan.held_back("a"), plan.held_back(name="b")), (1, 0))

    def test_a_lock_of_one_task_alone_holds_nobody_back(self):
        plan = Plan([task("a", 1), task("b", 2, [(0, 9, "x")]), task("c", 3, [(0, 9, "y")])])
        self.assertEqual([plan.held_back(name) for name in "abc"], [0, 0, 0])
        self.assertEqual([plan.ceiling("x"), plan.ceiling("y")], [2, 3])

    def test_told_lists_and_tasks_are_new(self):
        rows = [task("a", 1, [(0, 3, "x")]), task("b", 2, [(0, 3, "x")])]
        plan = Plan(rows)
        plan.tasks().clear()
        plan.tasks()[0].rank = 9
        plan.task("b").rank = 1
        plan.locks().append("y")
        rows[0].name = "z"
        rows.pop()
        self.assertEqual(plan.tasks(), [task("a", 1, [(0, 3, "x")]), task("b", 2, [(0, 3, "x")])])
        self.assertEqual(plan.locks(), ["x"])
        self.assertEqual(plan.task("a").name, "a")
        self.assertEqual(plan.held_back("a"), 2)

    def test_against_plain_sums(self):
        chance = random.Random(11)
        for _ in range(300):
            plan = random_plan(chance, many=6, most=9)
            tasks = plan.tasks()
            for each in tasks:
                self.assertEqual(plan.held_back(each.name), plain_held_back(tasks, each))
            for lock in plan.locks():
                self.assertEqual(plan.ceiling(lock), plain_ceiling(tasks, lock))
            self.assertEqual(plan.locks(), sorted({row[2] for each in tasks for row in each.sections}))


if __name__ == "__main__":
    unittest.main()
