"""[34], [35]: works by dues and the demand, and of [2], [3] and [4] what holds of them."""

import random
import unittest

from plain import PlainRun, random_wishes
from plain_more import PlainEarliest, plain_demand, plain_demand_paper, plain_plan
from promptworks.bounds import is_kept
from promptworks.earliest import Earliest, demand, demand_paper, need_plain
from promptworks.errors import BadWork, NoTask, Past, Sections, Waits
from promptworks.plans import Plan
from promptworks.tasks import Task

GREAT = 10 ** 12


def ran(plan, wishes, hour, **doors):
    works = Earliest(plan, **doors)
    works.wishes(wishes)
    works.run(hour)
    return works


def told(works):
    return (works.now(), works.jobs(), works.struck(), works.late(), works.trace())


def pair(due=10, gap=20):
    return Plan([Task("a", rank=1, gap=gap, most=4, due=due), Task("b", rank=2, gap=20, most=4, due=10)])


class TestPlain(unittest.TestCase):
    def refused(self, error, name, *plans):
        for plan in plans:
            for call in [lambda: need_plain(plan), lambda: demand(plan, 5), lambda: demand_paper(plan),
                         lambda: Earliest(plan)]:
                with self.assertRaises(error) as caught:
                    call()
                self.assertEqual(vars(caught.exception), {"name": name})

    def test_sections_and_waits(self):
        plain = Task("p", rank=9, gap=9, most=2)
        locked = [Task(name, rank=rank, gap=9, most=3, sections=[(0, 1, "x")]) for name, rank in [("c", 5), ("d", 4)]]
        waiting = [Task(name, rank=rank, gap=9, most=3, wait=1) for name, rank in [("e", 3), ("f", 2)]]
        self.refused(Sections, "c", Plan([plain, locked[0]]), Plan([locked[0]]))
        self.refused(Sections, "d", Plan(locked), Plan([plain] + locked[::-1]))
        self.refused(Waits, "e", Plan([plain, waiting[0]]))
        self.refused(Waits, "f", Plan(waiting + [plain]))
        self.refused(Sections, "d", Plan(locked + waiting + [plain]))
        both = Task("g", rank=1, gap=9, most=3, wait=1, sections=[(1, 1, "x")])
        self.refused(Sections, "g", Plan([both] + locked), Plan([both]))

    def test_a_plain_plan(self):
        self.assertIsNone(need_plain(Plan()))
        self.assertIsNone(need_plain(plan=pair()))


class TestEarliest(unittest.TestCase):
    def test_the_least_due_works(self):
        plan = Plan([Task("a", rank=1, gap=30, most=6), Task("b", rank=2, gap=20, most=4, due=9),
                     Task("c", rank=3, gap=20, most=4, due=5)])
        works = ran(plan, [(0, "a", 6), (2, "b", 4), (3, "c", 2)], 30)
        self.assertEqual(works.trace(), [(0, 2, "a", 0), (2, 3, "b", 0), (3, 5, "c", 0), (5, 8, "b", 0), (8, 12, "a", 0)])
        self.assertEqual(works.jobs()[1:], [("b", 0, 2, 2, 4, 4, 8), ("c", 0, 3, 3, 2, 2, 5)])

    def test_of_alike_dues_the_more_urgent_task(self):
        for hour, first in [(4, "b"), (5, "a"), (6, "a")]:
            # b is due at 15: a, of a due of 10, is due as late where it comes at 5.
            works = ran(pair(), [(5, "b", 4), (hour, "a", 4)], 40)
            rows = [row[2] for row in works.trace()]
            self.assertEqual(rows, {4: ["a", "b"], 5: ["a", "b"], 6: ["b", "a"]}[hour])
        works = ran(pair(due=8), [(3, "b", 4), (5, "a", 4)], 40)
        self.assertEqual(works.trace(), [(3, 5, "b", 0), (5, 9, "a", 0), (9, 11, "b", 0)])

    def test_of_alike_dues_of_one_task_the_lesser_number(self):
        plan = Plan([Task("a", rank=1, gap=6, most=4, due=3)])
        works = ran(plan, [(0, "a", 4), (0, "a", 3)], 20, gate=False)
        self.assertEqual(works.trace(), [(0, 3, "a", 0), (3, 7, "a", 1)])
        self.assertEqual(works.jobs(), [("a", 0, 0, 0, 3, 3, 3), ("a", 1, 6, 0, 4, 4, 7)])

    def test_the_due_of_the_arrival_counts_where_it_came_early(self):
        # The second job of a comes at 1, arrives at 20 and is due at 30.
        works = ran(pair(), [(0, "a", 2), (1, "a", 4), (2, "b", 4)], 60, gate=False)
        self.assertEqual(works.trace(), [(0, 2, "a", 0), (2, 6, "b", 0), (6, 10, "a", 1)])

    def test_guard_and_late(self):
        works = ran(pair(), [(0, "a", 9), (0, "b", 9)], 60)
        self.assertEqual(told(works)[1:4], ([("a", 0, 0, 0, 9, 4, 4), ("b", 0, 0, 0, 9, 4, 8)], [("a", 0), ("b", 0)], []))
        works = ran(pair(), [(0, "a", 9), (0, "b", 9)], 60, guard=False)
        self.assertEqual(told(works)[2:4], ([], [("b", 0)]))
        with self.assertRaises(TypeError):
            Earliest(pair(), True)

    def test_refused_wishes(self):
        works = ran(pair(), [(0, "b", 4)], 3)
        before = told(works)
        for error, fields, row in [(Past, {"hour": 2}, (2, "z", 0)), (NoTask, {"name": "z"}, (3, "z", 0)),
                                   (BadWork, {"work": 0}, (3, "a", 0))]:
            with self.assertRaises(error) as caught:
                works.wish(*row)
            self.assertEqual(vars(caught.exception), fields)
            again = ran(pair(), [(0, "b", 4)], 3)
            with self.assertRaises(error):
                again.wishes([(3, "a", 1), row, (4, "b", 1)])
            again.run(50)
            self.assertEqual([job[0] for job in again.jobs()], ["a", "b"])
        with self.assertRaises(Past):
            works.run(2)
        self.assertEqual(told(works), before)

    def test_told_lists_are_new(self):
        works = ran(pair(due=3), [(0, "a", 9)], 9)
        held = told(works)
        self.assertEqual(held, (9, [("a", 0, 0, 0, 9, 4, 4)], [("a", 0)], [("a", 0)], [(0, 4, "a", 0)]))
        for rows in told(works)[1:]:
            rows.clear()
        self.assertEqual(told(works), held)

    def test_great_numbers(self):
        plan = Plan([Task("a", rank=1, gap=GREAT, most=GREAT // 2), Task("b", rank=2, gap=GREAT, most=GREAT // 2, due=GREAT - 1)])
        works = ran(plan, [(0, "a", GREAT), (1, "b", GREAT), (2, "b", 1)], 3 * GREAT)
        # Both are due at the same hour: the more urgent one goes first.
        self.assertEqual(works.trace(), [(0, GREAT // 2, "a", 0), (GREAT // 2, GREAT, "b", 0),
                                         (GREAT + 1, GREAT + 2, "b", 1)])
        self.assertEqual(works.struck(), [("a", 0), ("b", 0)])

    def test_against_the_plain_machine(self):
        chance = random.Random(34)
        for _ in range(300):
            plan = plain_plan(chance, many=5, gaps=(3, 30), most=9)
            wishes = random_wishes(chance, plan, many=16)
            doors = {"gate": chance.choice([True, False]), "guard": chance.choice([True, False])}
            works = Earliest(plan, **doors)
            works.wishes(wishes)
            for hour in sorted(chance.randint(0, 110) for _ in range(chance.randint(1, 8))):
                works.run(hour)
                run = PlainEarliest(plan.tasks(), wishes, hour, **doors)
                self.assertEqual(told(works), (hour, run.jobs(), run.struck(), run.late(), run.trace()))


class TestDemand(unittest.TestCase):
    def test_just_at_dues(self):
        plan = Plan([Task("a", rank=1, gap=10, most=3, due=7), Task("b", rank=2, gap=20, most=8)])
        for ticks, told_demand in [(0, 0), (6, 0), (7, 3), (16, 3), (17, 6), (19, 6), (20, 14), (26, 14), (27, 17), (40, 28)]:
            self.assertEqual(demand(plan, ticks), told_demand, ticks)
        self.assertEqual(demand(plan=Plan(), ticks=9), 0)
        self.assertEqual(demand(plan, GREAT), 3 * (GREAT // 10) + 8 * (GREAT // 20))

    def test_no_tasks(self):
        self.assertEqual(demand_paper(Plan()), ("kept", 0))

    def test_a_demand_just_at_its_ticks_and_one_beyond(self):
        for due, paper in [(8, ("kept", 8)), (7, ("late", 7))]:
            self.assertEqual(demand_paper(Plan([Task("a", rank=1, gap=20, most=4, due=due),
                                                Task("b", rank=2, gap=20, most=4, due=6)])), paper)
        self.assertEqual(demand_paper(plan=Plan([Task("a", rank=1, gap=9, most=5, due=5)])), ("kept", 5))
        self.assertEqual(demand_paper(Plan([Task("a", rank=1, gap=9, most=5, due=4)])), ("late", 4))

    def test_a_sum_of_just_1(self):
        self.assertEqual(demand_paper(Plan([Task("a", rank=1, gap=7, most=7)])), ("kept", 7))
        self.assertEqual(demand_paper(Plan([Task("a", rank=1, gap=7, most=7, due=6)])), ("late", 6))
        plan = Plan([Task("a", rank=1, gap=4, most=2), Task("b", rank=2, gap=6, most=3)])
        self.assertEqual(demand_paper(plan), ("kept", 12))
        plan = Plan([Task("a", rank=1, gap=2, most=1), Task("b", rank=2, gap=3, most=1), Task("c", rank=3, gap=6, most=1)])
        self.assertEqual(demand_paper(plan), ("kept", 6))
        for due, paper in [(5, ("kept", 12)), (4, ("late", 4))]:
            plan = Plan([Task("a", rank=1, gap=4, most=2), Task("b", rank=2, gap=6, most=3, due=due)])
            self.assertEqual(demand_paper(plan), paper)
        # A least common multiple near a million.
        plan = Plan([Task("a", rank=1, gap=1000, most=500), Task("b", rank=2, gap=996, most=498)])
        self.assertEqual(demand_paper(plan), ("kept", 249000))

    def test_a_sum_above_1(self):
        self.assertEqual(demand_paper(Plan([Task("a", rank=1, gap=7, most=8)])), ("late", 7))
        plan = Plan([Task("a", rank=1, gap=4, most=2), Task("b", rank=2, gap=10, most=6)])
        self.assertEqual(demand_paper(plan), ("late", 20))
        # Just above 1: 1000 times an eighth and one thousandth more.
        plan = Plan([Task("a", rank=1, gap=8, most=7), Task("b", rank=2, gap=800, most=101)])
        self.assertEqual(demand_paper(plan), ("late", 800))

    def test_great_numbers(self):
        plan = Plan([Task("a", rank=1, gap=GREAT, most=GREAT // 2), Task("b", rank=2, gap=GREAT - 1, most=GREAT // 2 - 2)])
        self.assertEqual(demand_paper(plan), ("kept", GREAT - 2))
        plan = Plan([Task("a", rank=1, gap=GREAT, most=GREAT - 1), Task("b", rank=2, gap=GREAT, most=2)])
        self.assertEqual(demand_paper(plan), ("late", GREAT))
        plan = Plan([Task("a", rank=1, gap=GREAT // 100, most=GREAT // 200, due=GREAT // 200),
                     Task("b", rank=2, gap=GREAT, most=GREAT // 4)])
        self.assertEqual(demand_paper(plan), ("kept", GREAT // 2))

    def test_against_a_going_up_one_by_one(self):
        chance = random.Random(35)
        kinds = {"kept": 0, "late": 0, None: 0}
        for _ in range(400):
            plan = plain_plan(chance, many=4, gaps=(3, 20), most=8)
            for ticks in [0, chance.randint(0, 60), chance.randint(0, 60)]:
                self.assertEqual(demand(plan, ticks), plain_demand(plan.tasks(), ticks))
            paper = plain_demand_paper(plan.tasks(), 800)
            kinds[paper and paper[0]] += 1
            if paper is not None:
                self.assertEqual(demand_paper(plan), paper)
        self.assertGreater(min(kinds["kept"], kinds["late"]), 50)
        self.assertLess(kinds[None], 20)

    def test_kept_or_late_by_runs(self):
        chance = random.Random(36)
        for _ in range(150):
            plan = plain_plan(chance, many=4, gaps=(3, 20), most=8)
            word, ticks = demand_paper(plan)
            if word == "kept":
                wishes = random_wishes(chance, plan, many=20)
                self.assertEqual(ran(plan, wishes, 300).late(), [])
                close = [(hour, task.name, task.most) for task in plan.tasks() for hour in range(0, 200, task.gap)]
                self.assertEqual(ran(plan, close, 300).late(), [])
            else:
                close = [(hour, task.name, task.most) for task in plan.tasks() for hour in range(0, ticks, task.gap)]
                self.assertNotEqual(ran(plan, close, ticks).late(), [])
                self.assertNotEqual(PlainRun(plan.tasks(), close, ticks).late(), [])

    def test_what_ranks_keep(self):
        chance = random.Random(37)
        many = 0
        for _ in range(600):
            plan = plain_plan(chance, many=4, gaps=(5, 30), most=5)
            if is_kept(plan):
                many += 1
                self.assertEqual(demand_paper(plan)[0], "kept")
        self.assertGreater(many, 100)


if __name__ == "__main__":
    unittest.main()
