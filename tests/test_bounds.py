"""[12] and [13]: right sides, bounds and whether a plan is kept."""

import random
import unittest

from plain import plain_bound, plain_right_side, random_plan
from promptworks.bounds import bound, is_kept, right_side
from promptworks.errors import NoTask
from promptworks.plans import Plan
from promptworks.tasks import Task

GREAT = 10 ** 12


def locked():
    """Three tasks: a and c share x, so that c may hold a and b back for 4 - 1 ticks."""
    return Plan([Task("a", rank=1, gap=10, most=3, wait=2, sections=[(0, 2, "x")]),
                 Task("b", rank=2, gap=20, most=4),
                 Task("c", rank=3, gap=50, most=6, wait=1, sections=[(1, 4, "x")])])


class TestRightSide(unittest.TestCase):
    def test_of_the_most_urgent(self):
        for ticks in [0, 1, 9, GREAT]:
            self.assertEqual(right_side(locked(), "a", ticks), 3 + 3)

    def test_counts_jobs_of_more_urgent_ones_rounded_up(self):
        told = {ticks: right_side(locked(), "b", ticks) for ticks in [0, 1, 8, 9, 18, 19, 28]}
        self.assertEqual(told, {0: 10, 1: 10, 8: 10, 9: 13, 18: 13, 19: 16, 28: 16})

    def test_the_least_urgent_is_held_back_by_nobody(self):
        self.assertEqual(right_side(locked(), "c", 8), 6 + 3 + 4)
        self.assertEqual(right_side(plan=locked(), name="c", ticks=21), 6 + 9 + 8)

    def test_without_waits_none_is_counted_in_no_ticks(self):
        plan = Plan([Task("a", rank=1, gap=5, most=2), Task("b", rank=2, gap=9, most=3)])
        self.assertEqual([right_side(plan, "b", ticks) for ticks in [0, 1, 5, 6, 10, 11]], [3, 5, 5, 7, 7, 9])

    def test_waits_above_gaps(self):
        plan = Plan([Task("a", rank=1, gap=5, most=2, wait=12), Task("b", rank=2, gap=9, most=3)])
        self.assertEqual([right_side(plan, "b", ticks) for ticks in [0, 3, 4, 8, 9]], [9, 9, 11, 11, 13])

    def test_great_numbers(self):
        plan = Plan([Task("a", rank=1, gap=GREAT, most=GREAT // 4, wait=GREAT),
                     Task("b", rank=2, gap=GREAT, most=7, due=GREAT)])
        self.assertEqual(right_side(plan, "b", 0), GREAT // 4 + 7)
        self.assertEqual(right_side(plan, "b", 1), GREAT // 2 + 7)
        self.assertEqual(right_side(plan, "b", GREAT), GREAT // 2 + 7)
        self.assertEqual(right_side(plan, "b", GREAT + 1), 3 * GREAT // 4 + 7)

    def test_strangers(self):
        for name in ["d", "", "x", "no task of these"]:
            for ask in [lambda: right_side(locked(), name, 3), lambda: bound(locked(), name),
                        lambda: right_side(Plan(), name, 0), lambda: bound(Plan(), name)]:
                with self.assertRaises(NoTask) as caught:
                    ask()
                self.assertEqual(caught.exception.name, name)


class TestBound(unittest.TestCase):
    def test_small_ones(self):
        self.assertEqual([bound(locked(), name) for name in "abc"], [2 + 6, 13, 1 + 16])
        self.assertEqual(bound(plan=locked(), name="b"), 13)

    def test_one_task(self):
        self.assertEqual(bound(Plan([Task("a", rank=1, gap=4, most=4)]), "a"), 4)
        self.assertEqual(bound(Plan([Task("a", rank=1, gap=4, most=3, wait=1)]), "a"), 4)
        self.assertIsNone(bound(Plan([Task("a", rank=1, gap=4, most=5)]), "a"))
        self.assertIsNone(bound(Plan([Task("a", rank=1, gap=4, most=3, wait=2)]), "a"))
        self.assertIsNone(bound(Plan([Task("a", rank=1, gap=4, most=1, wait=4)]), "a"))
        self.assertIsNone(bound(Plan([Task("a", rank=1, gap=4, most=1, wait=GREAT)]), "a"))

    def test_just_at_the_due_and_one_beyond(self):
        for wait, told in [(0, 8), (3, 14), (6, 17)]:
            for due in [told - 1, told, told + 1, 1, 20]:
                plan = Plan([Task("a", rank=1, gap=10, most=3, wait=wait and 3),
                             Task("b", rank=2, gap=20, most=5, wait=wait, due=due)])
                self.assertEqual(bound(plan, "b"), told if told <= due else None, (wait, due))

    def test_the_least_of_several_that_are_their_own_right_side(self):
        for first, second, third, told in [((2, 1), None, (40, 3), [6, 7]),
                                           ((4, 2), None, (40, 2), [4, 6]),
                                           ((6, 3), (6, 2), (60, 1), [6, 11, 16, 21, 26, 31]),
                                           ((4, 3), (6, 1), (30, 1), [12, 16, 20, 23, 27, 30])]:
            rows = [first, second, third] if second else [first, third]
            tasks = [Task("abc"[place], rank=place + 1, gap=gap, most=most) for place, (gap, most) in enumerate(rows)]
            plan = Plan(tasks)
            name = tasks[-1].name
            alike = [ticks for ticks in range(third[0] + 1) if right_side(plan, name, ticks) == ticks]
            self.assertEqual(alike, told)
            self.assertEqual(bound(plan, name), told[0])

    def test_more_urgent_ones_that_fill_all_time(self):
        plan = Plan([Task("a", rank=1, gap=2, most=1), Task("b", rank=2, gap=4, most=2),
                     Task("c", rank=3, gap=200, most=1)])
        self.assertEqual([bound(plan, name) for name in "abc"], [1, 4, None])
        plan = Plan([Task("a", rank=1, gap=GREAT // 100, most=GREAT // 100), Task("b", rank=2, gap=GREAT, most=1)])
        self.assertEqual([bound(plan, name) for name in "ab"], [GREAT // 100, None])
        plan = Plan([Task("a", rank=1, gap=3, most=5), Task("b", rank=2, gap=200, most=1)])
        self.assertEqual([bound(plan, name) for name in "ab"], [None, None])

    def test_great_numbers(self):
        plan = Plan([Task("a", rank=1, gap=GREAT // 100, most=GREAT // 200, wait=GREAT),
                     Task("b", rank=2, gap=GREAT, most=GREAT // 10 ** 6, wait=5)])
        self.assertEqual(bound(plan, "a"), None)
        self.assertEqual(bound(plan, "b"), None)
        plan = Plan([Task("a", rank=1, gap=GREAT // 100, most=GREAT // 400, wait=GREAT),
                     Task("b", rank=2, gap=GREAT, most=GREAT // 10 ** 6, wait=5)])
        many = 134
        ticks = many * (GREAT // 400) + GREAT // 10 ** 6
        self.assertEqual(right_side(plan, "b", ticks), ticks)
        self.assertEqual(bound(plan, "b"), ticks + 5)

    def test_against_plain_sums(self):
        chance = random.Random(12)
        for _ in range(600):
            plan = random_plan(chance, many=5)
            tasks = plan.tasks()
            told = {task.name: bound(plan, task.name) for task in tasks}
            self.assertEqual(told, {task.name: plain_bound(tasks, task) for task in tasks})
            self.assertEqual(is_kept(plan), None not in told.values())
            for task in tasks:
                for ticks in [0, 1, chance.randrange(60), 2 * task.gap]:
                    self.assertEqual(right_side(plan, task.name, ticks), plain_right_side(tasks, task, ticks))


class TestIsKept(unittest.TestCase):
    def test_all_have_bounds(self):
        self.assertIs(is_kept(locked()), True)
        self.assertIs(is_kept(plan=Plan()), True)

    def test_one_has_none(self):
        rows = locked().tasks()
        for place, due in enumerate([7, 12, 16]):
            for beyond in [0, 1]:
                task = rows[place]
                other = Task(task.name, rank=task.rank, gap=task.gap, most=task.most, wait=task.wait,
                             due=due + beyond, sections=task.sections)
                plan = Plan(rows[:place] + [other] + rows[place + 1:])
                self.assertIs(is_kept(plan), beyond == 1)


if __name__ == "__main__":
    unittest.main()
