"""[15], [16], [21] and the trace of [22]: the run of a plan, and of [2] and [3] what holds of it."""

import random
import unittest

from plain import PlainRun, random_plan, random_wishes
from promptworks.errors import BadWork, NoLock, NoTask, Past
from promptworks.plans import Plan
from promptworks.tasks import Task
from promptworks.works import Works

GREAT = 10 ** 12


def ran(plan, wishes, hour, **doors):
    works = Works(plan, **doors)
    works.wishes(wishes)
    works.run(hour)
    return works


def pair(length, start=1, most=8):
    """Two tasks that share x: a, the more urgent one, for a tick, b from start on for a length."""
    return Plan([Task("a", rank=1, gap=50, most=3, sections=[(0, 1, "x")]),
                 Task("b", rank=2, gap=50, most=most, sections=[(start, length, "x")])])


class TestWhoWorks(unittest.TestCase):
    def test_the_most_urgent_works(self):
        plan = Plan([Task("b", rank=1, gap=9, most=3), Task("a", rank=2, gap=20, most=9)])
        works = ran(plan, [(0, "a", 6), (2, "b", 3), (11, "b", 1)], 12)
        self.assertEqual(works.trace(), [(0, 2, "a", 0), (2, 5, "b", 0), (5, 9, "a", 0), (11, 12, "b", 1)])
        self.assertEqual(works.jobs(), [("b", 0, 2, 2, 3, 3, 5), ("b", 1, 11, 11, 1, 1, 12), ("a", 0, 0, 0, 6, 6, 9)])

    def test_of_one_task_the_lesser_number_works(self):
        plan = Plan([Task("a", rank=1, gap=5, most=4, wait=9, sections=[(1, 2, "x")])])
        works = ran(plan, [(0, "a", 4), (0, "a", 2), (1, "a", 1)], 9)
        self.assertEqual(works.trace(), [(0, 2, "a", 0), (2, 6, "a", 1), (6, 7, "a", 2)])

    def test_a_section_is_had_behind_its_first_tick(self):
        for hour, begin in [(0, 0), (1, 1), (2, 5), (3, 5), (4, 5), (5, 5), (6, 6)]:
            # b has x at the hours 2, 3 and 4: behind its first tick in it till the last one is done.
            works = ran(pair(4), [(0, "b", 8), (hour, "a", 2)], 20)
            self.assertEqual([row[0] for row in works.trace() if row[2] == "a"], [begin], hour)
            works = Works(pair(4))
            works.wish(0, "b", 8)
            works.run(hour)
            self.assertEqual(works.holder("x"), ("b", 0) if 2 <= hour <= 4 else None)

    def test_a_section_of_one_tick_is_never_had(self):
        for hour in range(4):
            works = ran(pair(1), [(0, "b", 8), (hour, "a", 2)], hour)
            self.assertIsNone(works.holder("x"))
            works.run(20)
            self.assertEqual([row[0] for row in works.trace() if row[2] == "a"], [hour])

    def test_a_section_from_the_first_tick_on(self):
        for hour, begin in [(0, 0), (1, 4), (3, 4), (4, 4), (5, 5)]:
            works = ran(pair(4, start=0), [(0, "b", 8), (hour, "a", 2)], 20)
            self.assertEqual([row[0] for row in works.trace() if row[2] == "a"], [begin], hour)

    def test_touching_sections_let_others_in_between(self):
        plan = Plan([Task("a", rank=1, gap=50, most=3, sections=[(0, 1, "x"), (1, 1, "y")]),
                     Task("b", rank=2, gap=50, most=9, sections=[(0, 4, "x"), (4, 3, "y")])])
        for hour, begin in [(3, 4), (4, 4), (5, 7), (6, 7), (7, 7)]:
            works = ran(plan, [(0, "b", 9), (hour, "a", 2)], 20)
            self.assertEqual([row[0] for row in works.trace() if row[2] == "a"], [begin], hour)

    def test_of_alike_ranks_who_has_a_section(self):
        plan = Plan([Task("a", rank=3, gap=50, most=4, sections=[(1, 2, "x")]),
                     Task("b", rank=7, gap=50, most=6, sections=[(0, 4, "x")])])
        works = ran(plan, [(0, "b", 6), (2, "a", 4)], 20)
        self.assertEqual(works.trace(), [(0, 4, "b", 0), (4, 8, "a", 0), (8, 10, "b", 0)])

    def test_more_urgent_than_the_ceiling_isnt_held_back(self):
        plan = Plan([Task("top", rank=1, gap=50, most=2), Task("a", rank=2, gap=50, most=2, sections=[(0, 1, "x")]),
                     Task("mid", rank=3, gap=50, most=2), Task("b", rank=4, gap=50, most=9, sections=[(0, 6, "x")])])
        works = ran(plan, [(0, "b", 9), (2, "a", 2), (2, "mid", 2), (3, "top", 2)], 30)
        self.assertEqual(works.trace(), [(0, 3, "b", 0), (3, 5, "top", 0), (5, 8, "b", 0), (8, 10, "a", 0),
                                         (10, 12, "mid", 0), (12, 15, "b", 0)])

    def test_the_most_urgent_ceiling_counts(self):
        plan = Plan([Task("a", rank=1, gap=50, most=2, sections=[(0, 1, "x")]),
                     Task("b", rank=2, gap=50, most=2, sections=[(0, 1, "y")]),
                     Task("c", rank=3, gap=50, most=12, sections=[(0, 10, "y"), (3, 4, "x")])])
        for name, hour, begin in [("a", 3, 3), ("a", 4, 7), ("a", 6, 7), ("a", 7, 7), ("b", 1, 10), ("b", 5, 10),
                                  ("b", 9, 10), ("b", 10, 10), ("a", 9, 9)]:
            works = ran(plan, [(0, "c", 12), (hour, name, 1)], 30)
            self.assertEqual([row[0] for row in works.trace() if row[2] == name], [begin], (name, hour))
        works = ran(plan, [(0, "c", 12)], 5)
        self.assertEqual((works.holder("x"), works.holder(lock="y")), (("c", 0), ("c", 0)))

    def test_an_end_within_a_section(self):
        plan = pair(4)
        works = ran(plan, [(0, "b", 3), (2, "a", 1)], 3)
        self.assertIsNone(works.holder("x"))
        self.assertEqual(works.jobs(), [("a", 0, 2, 2, 1, 0, None), ("b", 0, 0, 0, 3, 3, 3)])
        works.run(9)
        self.assertEqual(works.trace(), [(0, 3, "b", 0), (3, 4, "a", 0)])

    def test_a_lock_may_be_held_while_others_work(self):
        plan = Plan([Task("a", rank=1, gap=50, most=5), Task("b", rank=2, gap=50, most=5, sections=[(0, 3, "x")])])
        works = ran(plan, [(0, "b", 5), (2, "a", 5)], 4)
        self.assertEqual(works.holder("x"), ("b", 0))
        works.run(7)
        self.assertEqual(works.holder("x"), ("b", 0))
        works.run(8)
        self.assertIsNone(works.holder("x"))


class TestGuardAndGate(unittest.TestCase):
    def test_work_of_just_the_most_and_one_more(self):
        plan = Plan([Task("a", rank=1, gap=10, most=4), Task("b", rank=2, gap=50, most=4)])
        wishes = [(0, "a", 4), (10, "a", 5), (0, "b", 1), (50, "b", 400)]
        works = ran(plan, wishes, 80)
        self.assertEqual(works.jobs(), [("a", 0, 0, 0, 4, 4, 4), ("a", 1, 10, 10, 5, 4, 14),
                                        ("b", 0, 0, 0, 1, 1, 5), ("b", 1, 50, 50, 400, 4, 54)])
        self.assertEqual(works.struck(), [("a", 1), ("b", 1)])
        works = ran(plan, wishes, 80, guard=False)
        self.assertEqual(works.jobs()[1], ("a", 1, 10, 10, 5, 5, 15))
        self.assertEqual(works.jobs()[3], ("b", 1, 50, 50, 400, 30, None))
        self.assertEqual(works.struck(), [])

    def test_struck_at_the_hour_behind_the_last_tick(self):
        plan = Plan([Task("a", rank=1, gap=10, most=4)])
        works = ran(plan, [(0, "a", 9)], 3)
        self.assertEqual((works.jobs(), works.struck()), ([("a", 0, 0, 0, 9, 3, None)], []))
        works.run(4)
        self.assertEqual((works.jobs(), works.struck()), ([("a", 0, 0, 0, 9, 4, 4)], [("a", 0)]))

    def test_work_beyond_the_most_has_no_sections(self):
        works = ran(pair(4, most=6), [(0, "b", 30), (8, "a", 1)], 20, guard=False)
        self.assertEqual(works.trace(), [(0, 8, "b", 0), (8, 9, "a", 0), (9, 20, "b", 0)])
        self.assertIsNone(works.holder("x"))

    def test_a_job_that_comes_early(self):
        plan = Plan([Task("a", rank=1, gap=10, most=4, wait=2)])
        wishes = [(0, "a", 2), (5, "a", 3), (7, "a", 4)]
        works = ran(plan, wishes, 30)
        self.assertEqual(works.jobs(), [("a", 0, -2, 0, 2, 2, 2), ("a", 1, 8, 8, 3, 3, 11), ("a", 2, 18, 18, 4, 4, 22)])
        works = ran(plan, wishes, 30, gate=False)
        self.assertEqual(works.jobs(), [("a", 0, -2, 0, 2, 2, 2), ("a", 1, 8, 5, 3, 3, 8), ("a", 2, 18, 7, 4, 4, 12)])
        works = ran(plan, wishes, 8)
        self.assertEqual(works.jobs(), [("a", 0, -2, 0, 2, 2, 2), ("a", 1, 8, 8, 3, 0, None), ("a", 2, 18, 18, 4, 0, None)])

    def test_both_are_shut_where_nothing_is_told(self):
        plan = Plan([Task("a", rank=1, gap=10, most=4)])
        wishes = [(0, "a", 9), (1, "a", 9)]
        told = ran(plan, wishes, 30).jobs()
        self.assertEqual(told, ran(plan, wishes, 30, gate=True, guard=True).jobs())
        self.assertEqual([row[3] for row in told], [0, 10])
        self.assertEqual([row[6] for row in told], [4, 14])
        self.assertEqual([row[6] for row in ran(plan, wishes, 30, gate=True, guard=False).jobs()], [9, 19])
        self.assertEqual([row[6] for row in ran(plan, wishes, 30, gate=False, guard=True).jobs()], [4, 8])
        self.assertEqual([row[6] for row in ran(plan, wishes, 30, gate=False, guard=False).jobs()], [9, 18])
        with self.assertRaises(TypeError):
            Works(plan, True)


class TestLate(unittest.TestCase):
    def test_not_at_its_end_when_it_is_due(self):
        plan = Plan([Task("a", rank=1, gap=20, most=4), Task("b", rank=2, gap=9, most=4, due=7)])
        works = Works(plan)
        works.wishes([(0, "a", 4), (0, "b", 4), (9, "b", 4)])
        for hour, late in [(0, []), (6, []), (7, [("b", 0)]), (8, [("b", 0)]), (16, [("b", 0)]), (40, [("b", 0)])]:
            works.run(hour)
            self.assertEqual(works.late(), late, hour)
        self.assertEqual([row[6] for row in works.jobs()], [4, 8, 13])

    def test_just_at_the_due_isnt_late(self):
        plan = Plan([Task("a", rank=1, gap=20, most=3), Task("b", rank=2, gap=9, most=4, due=7)])
        works = ran(plan, [(0, "a", 3), (0, "b", 4)], 7)
        self.assertEqual(works.late(), [])
        works.run(20)
        self.assertEqual(works.late(), [])

    def test_the_wait_counts(self):
        plan = Plan([Task("a", rank=1, gap=9, most=4, wait=3, due=6)])
        self.assertEqual(ran(plan, [(0, "a", 3)], 9).late(), [])
        self.assertEqual(ran(plan, [(0, "a", 4)], 2).late(), [])
        self.assertEqual(ran(plan, [(0, "a", 4)], 3).late(), [("a", 0)])

    def test_a_job_that_has_waited_beyond_its_due(self):
        plan = Plan([Task("a", rank=1, gap=5, most=1, wait=9, due=2)])
        works = Works(plan)
        works.wish(4, "a", 1)
        works.run(4)
        self.assertEqual((works.jobs(), works.late()), ([], []))
        works.run(5)
        self.assertEqual((works.jobs(), works.late()), ([("a", 0, -5, 4, 1, 1, 5)], [("a", 0)]))

    def test_by_ranks_then_numbers(self):
        plan = Plan([Task("b", rank=1, gap=4, most=9), Task("a", rank=2, gap=4, most=1)])
        works = ran(plan, [(0, "a", 2), (0, "b", 9), (1, "b", 9), (0, "a", 2)], 40)
        self.assertEqual(works.late(), [("b", 0), ("b", 1), ("a", 0), ("a", 1)])
        self.assertEqual(works.struck(), [("a", 0), ("a", 1)])


class TestWishes(unittest.TestCase):
    def refused(self, error, fields, call, *told, **named):
        with self.assertRaises(error) as caught:
            call(*told, **named)
        self.assertEqual(vars(caught.exception), fields)

    def works(self):
        return ran(pair(4), [(0, "b", 8), (12, "a", 1)], 9)

    def test_refused_wishes(self):
        works = self.works()
        told = (works.jobs(), works.trace(), works.now())
        self.refused(Past, {"hour": 8}, works.wish, 8, "a", 1)
        self.refused(Past, {"hour": 0}, works.wish, 0, "z", 0)
        self.refused(Past, {"hour": -1}, works.wish, -1, "a", 0)
        self.refused(NoTask, {"name": "z"}, works.wish, 9, "z", 1)
        self.refused(NoTask, {"name": "z"}, works.wish, 9, "z", 0)
        self.refused(NoTask, {"name": ""}, works.wish, 20, "", 1)
        self.refused(BadWork, {"work": 0}, works.wish, 9, "a", 0)
        self.refused(BadWork, {"work": -7}, works.wish, hour=30, task="b", work=-7)
        self.assertEqual((works.jobs(), works.trace(), works.now()), told)
        works.run(20)
        self.assertEqual(works.trace(), [(0, 8, "b", 0), (12, 13, "a", 0)])

    def test_an_hour_below_0_is_past(self):
        self.refused(Past, {"hour": -1}, Works(pair(4)).wish, -1, "a", 1)
        self.refused(Past, {"hour": -1}, Works(pair(4)).run, -1)

    def test_hours_0_and_now(self):
        works = Works(pair(4))
        self.assertEqual(works.now(), 0)
        works.run(0)
        works.wish(0, "b", 2)
        self.assertEqual((works.jobs(), works.trace(), works.now()), ([], [], 0))
        works.run(1)
        works.wish(1, "a", 1)
        self.assertEqual(works.jobs(), [("b", 0, 0, 0, 2, 1, None)])
        works.run(hour=1)
        self.assertEqual(works.trace(), [(0, 1, "b", 0)])
        works.run(3)
        self.assertEqual(works.trace(), [(0, 1, "b", 0), (1, 2, "a", 0), (2, 3, "b", 0)])
        self.assertEqual(works.now(), 3)

    def test_past_hours_to_run_to(self):
        works = self.works()
        self.refused(Past, {"hour": 8}, works.run, 8)
        self.refused(Past, {"hour": 0}, works.run, 0)
        self.assertEqual(works.now(), 9)

    def test_a_wrong_one_amid_a_row(self):
        for wrong, error in [((8, "b", 1), Past), ((9, "z", 1), NoTask), ((9, "a", 0), BadWork)]:
            works = self.works()
            with self.assertRaises(error):
                works.wishes([(10, "a", 2), (60, "b", 3), wrong, (9, "a", 1), (9, "z", 1)])
            works.run(99)
            self.assertEqual([row[:2] + row[4:5] for row in works.jobs()],
                             [("a", 0, 2), ("a", 1, 1), ("b", 0, 8), ("b", 1, 3)])

    def test_rows_of_wishes(self):
        rows = [(3, "a", 1), (0, "b", 2)]
        for told in [rows, tuple(rows)]:
            works = Works(pair(4))
            works.wishes(told)
            works.run(9)
            self.assertEqual([row[0] for row in works.jobs()], ["a", "b"])
        works = Works(pair(4))
        works.wishes(rows=rows)
        rows.append((4, "a", 1))
        works.wishes([])
        works.run(9)
        self.assertEqual(len(works.jobs()), 2)
        self.assertEqual(rows, [(3, "a", 1), (0, "b", 2), (4, "a", 1)])

    def test_a_later_wish_of_the_same_hour_with_less_work_goes_first(self):
        works = Works(Plan([Task("a", rank=1, gap=5, most=4, wait=20)]))
        works.wish(6, "a", 4)
        works.run(6)
        works.wish(6, "a", 1)
        works.wish(6, "a", 2)
        works.run(20)
        self.assertEqual([(row[1], row[4], row[6]) for row in works.jobs()], [(0, 1, 7), (1, 2, 9), (2, 4, 13)])

    def test_only_wishes_for_hours_below_now_are_told(self):
        works = ran(pair(4), [(4, "a", 1), (5, "b", 1), (6, "b", 1)], 5)
        self.assertEqual([row[:2] for row in works.jobs()], [("a", 0)])
        works.run(6)
        self.assertEqual([row[:2] for row in works.jobs()], [("a", 0), ("b", 0)])
        works.run(7)
        self.assertEqual([row[:2] for row in works.jobs()], [("a", 0), ("b", 0), ("b", 1)])

    def test_locks_that_nobody_has(self):
        works = self.works()
        for lock in ["y", "", "a"]:
            self.refused(NoLock, {"lock": lock}, works.holder, lock)
        self.refused(NoLock, {"lock": "x"}, Works(Plan()).holder, "x")

    def test_a_plan_of_none(self):
        works = Works(Plan())
        self.refused(NoTask, {"name": "a"}, works.wish, 0, "a", 1)
        works.wishes([])
        works.run(GREAT)
        self.assertEqual((works.now(), works.jobs(), works.struck(), works.late(), works.trace()), (GREAT, [], [], [], []))

    def test_told_lists_are_new(self):
        works = ran(Plan([Task("a", rank=1, gap=5, most=6)]), [(0, "a", 7)], 20)
        told = ([("a", 0, 0, 0, 7, 6, 6)], [("a", 0)], [("a", 0)], [(0, 6, "a", 0)])
        self.assertEqual((works.jobs(), works.struck(), works.late(), works.trace()), told)
        for rows in [works.jobs(), works.struck(), works.late(), works.trace()]:
            rows.clear()
        self.assertEqual((works.jobs(), works.struck(), works.late(), works.trace()), told)
        held = (works.jobs(), works.struck(), works.late(), works.trace())
        works.wish(20, "a", 7)
        works.run(40)
        self.assertEqual(held, told)
        self.assertEqual([len(rows) for rows in [works.jobs(), works.struck(), works.late(), works.trace()]], [2] * 4)


class TestTrace(unittest.TestCase):
    def test_what_is_still_going_ends_at_now(self):
        works = Works(pair(4))
        works.wish(3, "b", 8)
        for hour, rows in [(3, []), (4, [(3, 4, "b", 0)]), (7, [(3, 7, "b", 0)]), (30, [(3, 11, "b", 0)])]:
            works.run(hour)
            self.assertEqual(works.trace(), rows)

    def test_each_as_long_as_can_be(self):
        works = Works(pair(4))
        works.wish(0, "b", 8)
        for hour in range(12):
            works.run(hour)
        self.assertEqual(works.trace(), [(0, 8, "b", 0)])

    def test_two_jobs_of_one_task_are_told_apart(self):
        plan = Plan([Task("a", rank=1, gap=3, most=3)])
        works = ran(plan, [(0, "a", 3), (3, "a", 3), (7, "a", 3)], 20)
        self.assertEqual(works.trace(), [(0, 3, "a", 0), (3, 6, "a", 1), (7, 10, "a", 2)])

    def test_a_job_that_is_broken_off_by_nobody_in_between_stays_one(self):
        plan = Plan([Task("a", rank=1, gap=30, most=2), Task("b", rank=2, gap=30, most=9, sections=[(0, 5, "x")]),
                     Task("c", rank=3, gap=30, most=2)])
        works = ran(plan, [(0, "b", 9), (3, "c", 2), (4, "a", 2)], 20)
        self.assertEqual(works.trace(), [(0, 4, "b", 0), (4, 6, "a", 0), (6, 11, "b", 0), (11, 13, "c", 0)])


class TestGreatNumbers(unittest.TestCase):
    def test_nothing_goes_tick_by_tick(self):
        most = GREAT // 4
        plan = Plan([Task("a", rank=1, gap=GREAT, most=most, sections=[(5, most - 6, "x")]),
                     Task("b", rank=2, gap=GREAT, most=most, wait=GREAT, sections=[(7, most - 8, "x")])])
        works = ran(plan, [(0, "b", GREAT), (8, "a", most), (GREAT, "a", GREAT)], GREAT)
        self.assertEqual(works.trace(), [(0, most - 1, "b", 0), (most - 1, 2 * most - 1, "a", 0),
                                         (2 * most - 1, 2 * most, "b", 0)])
        self.assertEqual(works.struck(), [("b", 0)])
        works.run(GREAT + 1)
        self.assertEqual(works.jobs()[1], ("a", 1, GREAT + 8, GREAT + 8, GREAT, 0, None))
        works.run(2 * GREAT)
        self.assertEqual(works.jobs()[1], ("a", 1, GREAT + 8, GREAT + 8, GREAT, most, GREAT + 8 + most))
        self.assertEqual(works.late(), [("b", 0)])

    def test_a_run_of_thousands_of_jobs(self):
        plan = Plan([Task("a", rank=1, gap=10, most=2), Task("b", rank=2, gap=10, most=5)])
        wishes = [(10 * place, name, 2) for place in range(2000) for name in "ab"]
        works = ran(plan, wishes, 20000)
        self.assertEqual(works.late(), [])
        self.assertEqual([row[6] - row[2] for row in works.jobs()], [2] * 2000 + [4] * 2000)


class TestAgainstThePlainMachine(unittest.TestCase):
    def alike(self, works, plan, plain):
        self.assertEqual(works.now(), plain.hour)
        self.assertEqual(works.trace(), plain.trace())
        self.assertEqual(works.jobs(), plain.jobs())
        self.assertEqual(works.struck(), plain.struck())
        self.assertEqual(works.late(), plain.late())
        for lock in plan.locks():
            self.assertEqual(works.holder(lock), plain.holder(lock))

    def test_at_each_hour(self):
        chance = random.Random(15)
        for _ in range(25):
            plan = random_plan(chance, most=9)
            wishes = random_wishes(chance, plan)
            for gate in [True, False]:
                for guard in [True, False]:
                    works = Works(plan, gate=gate, guard=guard)
                    works.wishes(wishes)
                    for hour in range(0, 70, chance.choice([1, 1, 2, 5])):
                        works.run(hour)
                        self.alike(works, plan, PlainRun(plan.tasks(), wishes, hour, gate, guard))

    def test_run_at_once(self):
        chance = random.Random(16)
        for _ in range(400):
            plan = random_plan(chance, many=5, gaps=(3, 30), most=12)
            wishes = random_wishes(chance, plan, many=16)
            gate = chance.choice([True, False])
            guard = chance.choice([True, False])
            hour = chance.randint(0, 120)
            self.alike(ran(plan, wishes, hour, gate=gate, guard=guard), plan,
                       PlainRun(plan.tasks(), wishes, hour, gate, guard))

    def test_whatever_the_order_and_the_cuts(self):
        chance = random.Random(17)
        for _ in range(200):
            plan = random_plan(chance, most=9)
            wishes = random_wishes(chance, plan)
            gate = chance.choice([True, False])
            guard = chance.choice([True, False])
            whole = ran(plan, wishes, 100, gate=gate, guard=guard)
            works = Works(plan, gate=gate, guard=guard)
            rest = list(wishes)
            chance.shuffle(rest)
            for hour in sorted(chance.randint(0, 60) for _ in range(chance.randint(0, 12))) + [100]:
                # Each wish is told at some cut ahead of its hour, at the last moment at the latest.
                told = [row[0] < hour or chance.random() < 0.3 for row in rest]
                works.wishes([row for row, ripe in zip(rest, told) if ripe])
                rest = [row for row, ripe in zip(rest, told) if not ripe]
                works.run(hour)
            self.assertEqual((works.jobs(), works.trace(), works.struck(), works.late()),
                             (whole.jobs(), whole.trace(), whole.struck(), whole.late()))


if __name__ == "__main__":
    unittest.main()
