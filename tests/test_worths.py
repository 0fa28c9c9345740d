"""[37], [38]: two worths, and of [2] and [3] what holds of them."""

import random
import unittest

from plain import random_wishes
from plain_more import PlainWorths, plain_bound, plain_far_bound, plain_plan
from promptworks.bounds import bound
from promptworks.errors import BadTask, BadWork, NoTask, Past, Sections
from promptworks.plans import Plan
from promptworks.tasks import Task
from promptworks.works import Works
from promptworks.worths import Worths, far_bound, usual_bound

GREAT = 10 ** 12


def told(works):
    return (works.now(), works.jobs(), works.dropped_jobs(), works.struck(), works.alarms(), works.trace())


def ran(plan, fars, wishes, hour):
    works = Worths(plan, fars)
    for row in wishes:
        works.wish(*row)
    works.run(hour)
    return works


def three():
    """m may work from 3 ticks up to 6; l is more urgent, n less."""
    return Plan([Task("l", rank=1, gap=20, most=2), Task("m", rank=2, gap=20, most=3), Task("n", rank=3, gap=20, most=4)])


class TestWorths(unittest.TestCase):
    def test_usual_hours(self):
        works = ran(three(), {"m": 6}, [(0, "n", 9), (1, "m", 3), (2, "l", 9)], 30)
        self.assertEqual(told(works), (30, [("l", 0, 2, 2, 9, 2, 4), ("m", 0, 1, 1, 3, 3, 6), ("n", 0, 0, 0, 9, 4, 9)], [],
                                       [("l", 0), ("n", 0)], [], [(0, 1, "n", 0), (1, 2, "m", 0), (2, 4, "l", 0),
                                                                  (4, 6, "m", 0), (6, 9, "n", 0)]))

    def test_an_alarm(self):
        works = ran(three(), {"m": 6}, [(0, "n", 4), (1, "m", 5), (5, "l", 2), (7, "l", 1), (6, "n", 1)], 40)
        # m has worked its most at 4 and works on to 6: n is dropped at 4, l at 5; what comes behind 6 isn't.
        self.assertEqual(told(works), (
            40, [("l", 0, 5, 5, 2, 0, 5), ("l", 1, 25, 25, 1, 1, 26), ("m", 0, 1, 1, 5, 5, 6), ("n", 0, 0, 0, 4, 1, 4),
                 ("n", 1, 20, 20, 1, 1, 21)],
            [("l", 0), ("n", 0)], [], [(4, 6)],
            [(0, 1, "n", 0), (1, 6, "m", 0), (20, 21, "n", 1), (25, 26, "l", 1)]))

    def test_at_its_far_it_is_struck(self):
        for work, end, struck in [(5, 5, []), (6, 6, []), (7, 6, [("m", 0)]), (GREAT, 6, [("m", 0)])]:
            works = ran(three(), {"m": 6}, [(0, "m", work)], 30)
            self.assertEqual(works.jobs(), [("m", 0, 0, 0, work, end, end)])
            self.assertEqual((works.struck(), works.alarms()), (struck, [(3, end)]))

    def test_a_far_that_is_the_most(self):
        works = ran(three(), {"m": 3}, [(0, "m", 9), (1, "n", 4)], 30)
        self.assertEqual(told(works)[1:5], ([("m", 0, 0, 0, 9, 3, 3), ("n", 0, 1, 1, 4, 4, 7)], [], [("m", 0)], []))

    def test_none_of_much_worth(self):
        chance = random.Random(1)
        for _ in range(50):
            plan = plain_plan(chance, waits=(0, 3), most=7)
            wishes = random_wishes(chance, plan)
            works = Works(plan)
            works.wishes(wishes)
            works.run(60)
            self.assertEqual(told(ran(plan, {}, wishes, 60)), (60, works.jobs(), [], works.struck(), [], works.trace()))
            mosts = {task.name: task.most for task in plan.tasks()}
            self.assertEqual(told(ran(plan, mosts, wishes, 60)), (60, works.jobs(), [], works.struck(), [], works.trace()))

    def test_what_begins_and_ends_at_now(self):
        works = ran(three(), {"m": 6}, [(0, "m", 5), (1, "n", 1), (3, "l", 1), (4, "n", 1)], 3)
        self.assertEqual((works.alarms(), works.dropped_jobs()), ([], []))
        self.assertEqual(works.jobs(), [("m", 0, 0, 0, 5, 3, None), ("n", 0, 1, 1, 1, 0, None)])
        works.run(4)
        self.assertEqual((works.alarms(), works.dropped_jobs()), ([(3, None)], [("l", 0), ("n", 0)]))
        self.assertEqual(works.jobs(), [("l", 0, 3, 3, 1, 0, 3), ("m", 0, 0, 0, 5, 4, None), ("n", 0, 1, 1, 1, 0, 3)])
        works.run(5)
        self.assertEqual(works.alarms(), [(3, None)])
        self.assertEqual(works.jobs()[1], ("m", 0, 0, 0, 5, 5, 5))
        works.run(6)
        self.assertEqual(works.alarms(), [(3, 5)])

    def test_wished_at_now_where_the_alarm_begins(self):
        works = ran(three(), {"m": 6}, [(0, "m", 5)], 3)
        works.wish(3, "l", 2)
        works.run(3)
        self.assertEqual(works.jobs(), [("m", 0, 0, 0, 5, 3, None)])
        works.run(5)
        works.wish(5, "n", 1)
        works.run(9)
        self.assertEqual(works.dropped_jobs(), [("l", 0)])
        self.assertEqual(works.trace(), [(0, 5, "m", 0), (5, 6, "n", 0)])

    def test_dropped_at_now(self):
        works = ran(three(), {"m": 6}, [(0, "m", 6), (4, "l", 1)], 4)
        self.assertEqual((works.jobs(), works.dropped_jobs()), ([("m", 0, 0, 0, 6, 4, None)], []))
        works.run(5)
        self.assertEqual(works.jobs()[0], ("l", 0, 4, 4, 1, 0, 4))
        works = ran(three(), {"m": 6}, [(0, "l", 2), (0, "m", 6), (1, "l", 1)], 5)
        self.assertEqual(works.jobs()[1], ("l", 1, 20, 20, 1, 0, None))
        works = ran(Plan([Task("m", rank=2, gap=20, most=3), Task("n", rank=3, gap=5, most=4)]), {"m": 9},
                    [(0, "m", 9), (1, "n", 2), (2, "n", 2)], 6)
        # The second one of n is held up to 6: at 6 it isn't dropped yet.
        self.assertEqual((works.jobs()[1:], works.dropped_jobs()),
                         ([("n", 0, 1, 1, 2, 0, 3), ("n", 1, 6, 6, 2, 0, None)], [("n", 0)]))
        works.run(7)
        self.assertEqual((works.jobs()[1:], works.dropped_jobs()),
                         ([("n", 0, 1, 1, 2, 0, 3), ("n", 1, 6, 6, 2, 0, 6)], [("n", 0), ("n", 1)]))

    def test_released_where_an_alarm_begins_and_ends(self):
        for hour, is_dropped in [(2, True), (3, True), (4, True), (5, False), (6, False)]:
            works = ran(three(), {"m": 6}, [(0, "m", 5), (hour, "n", 1)], 30)
            self.assertEqual((works.alarms(), works.dropped_jobs()), ([(3, 5)], [("n", 0)] if is_dropped else []), hour)

    def test_an_alarm_lasts_while_any_of_much_worth_works(self):
        plan = Plan([Task("l", rank=1, gap=9, most=1), Task("m", rank=2, gap=20, most=2), Task("o", rank=3, gap=20, most=3)])
        works = ran(plan, {"m": 5, "o": 3}, [(0, "m", 4), (1, "o", 3), (5, "l", 1)], 30)
        self.assertEqual((works.alarms(), works.dropped_jobs()), ([(2, 7)], [("l", 0)]))
        # One of much worth that is released just where all others are at their end doesn't count.
        works = ran(plan, {"m": 5, "o": 3}, [(0, "m", 4), (4, "o", 3), (5, "l", 1)], 30)
        self.assertEqual((works.alarms(), works.dropped_jobs()), ([(2, 4)], []))
        self.assertEqual(works.trace(), [(0, 4, "m", 0), (4, 5, "o", 0), (5, 6, "l", 0), (6, 8, "o", 0)])

    def test_a_job_beyond_its_most_within_an_alarm(self):
        plan = Plan([Task("m", rank=1, gap=20, most=2), Task("o", rank=2, gap=20, most=2), Task("n", rank=3, gap=20, most=9)])
        works = ran(plan, {"m": 4, "o": 5}, [(0, "o", 4), (1, "m", 4), (2, "n", 1), (9, "n", 3)], 40)
        self.assertEqual(works.alarms(), [(3, 8)])
        self.assertEqual(works.trace(), [(0, 1, "o", 0), (1, 5, "m", 0), (5, 8, "o", 0), (22, 25, "n", 1)])

    def test_an_alarm_behind_another_one(self):
        plan = Plan([Task("m", rank=1, gap=8, most=2), Task("n", rank=2, gap=3, most=1)])
        works = ran(plan, {"m": 4}, [(0, "m", 4), (4, "m", 3), (3, "n", 1), (5, "n", 1), (10, "n", 1)], 40)
        self.assertEqual(works.alarms(), [(2, 4), (10, 11)])
        self.assertEqual((works.dropped_jobs(), works.jobs()[2:]), (
            [("n", 0), ("n", 2)], [("n", 0, 3, 3, 1, 0, 3), ("n", 1, 6, 6, 1, 1, 7), ("n", 2, 10, 10, 1, 0, 10)]))
        # Straight behind one: it begins a tick after the end of that one at the earliest.
        plan = Plan([Task("m", rank=1, gap=20, most=1), Task("o", rank=2, gap=20, most=1), Task("n", rank=3, gap=2, most=1)])
        works = ran(plan, {"m": 3, "o": 2}, [(0, "m", 2), (2, "o", 2), (2, "n", 1)], 40)
        self.assertEqual((works.alarms(), works.dropped_jobs()), ([(1, 2), (3, 4)], [("n", 0)]))

    def test_several_of_one_task_are_dropped(self):
        plan = Plan([Task("m", rank=1, gap=20, most=2), Task("n", rank=2, gap=3, most=2, wait=12)])
        works = ran(plan, {"m": 5}, [(0, "n", 2), (0, "n", 1), (0, "n", 2), (0, "m", 5), (4, "n", 1), (4, "n", 2)], 30)
        self.assertEqual(works.alarms(), [(2, 5)])
        self.assertEqual([(row[1], row[3], row[6]) for row in works.jobs()[1:]],
                         [(0, 0, 2), (1, 0, 2), (2, 0, 2), (3, 4, 4), (4, 4, 4)])
        self.assertEqual(works.dropped_jobs(), [("n", number) for number in range(5)])

    def test_great_numbers(self):
        plan = Plan([Task("m", rank=2, gap=GREAT, most=GREAT // 4), Task("n", rank=1, gap=GREAT, most=3)])
        works = ran(plan, {"m": GREAT // 2}, [(0, "m", GREAT), (1, "n", 3), (GREAT // 3, "n", 1), (GREAT // 2 + 5, "n", 1)], GREAT)
        self.assertEqual(told(works)[2:], ([], [("m", 0)], [(GREAT // 4 + 3, GREAT // 2 + 3)],
                                           [(0, 1, "m", 0), (1, 4, "n", 0), (4, GREAT // 2 + 3, "m", 0)]))
        works.run(2 * GREAT)
        self.assertEqual(works.jobs()[1], ("n", 1, GREAT + 1, GREAT + 1, 1, 1, GREAT + 2))
        self.assertEqual(usual_bound(plan, {"m": GREAT // 2}, "m"), GREAT // 4 + 3)
        self.assertEqual(far_bound(plan, {"m": GREAT // 2}, "m"), GREAT // 2 + 3)

    def test_told_lists_are_new(self):
        fars = {"m": 6}
        works = Worths(three(), fars)
        fars["m"] = 3
        fars["n"] = 9
        for row in [(0, "m", 9), (1, "n", 4)]:
            works.wish(*row)
        works.run(9)
        held = told(works)
        self.assertEqual(held, (9, [("m", 0, 0, 0, 9, 6, 6), ("n", 0, 1, 1, 4, 0, 3)], [("n", 0)], [("m", 0)], [(3, 6)],
                                [(0, 6, "m", 0)]))
        for rows in told(works)[1:]:
            rows.clear()
        self.assertEqual(told(works), held)

    def test_against_the_plain_machine(self):
        chance = random.Random(37)
        many = 0
        for _ in range(400):
            plan = plain_plan(chance, waits=(0, 0, 3, 9), many=5, gaps=(4, 24), most=6)
            fars = {task.name: task.most + chance.choice([0, 1, 3, 9]) for task in plan.tasks() if chance.random() < 0.5}
            wishes = [(hour, name, work + chance.choice([0, 0, 2, 9])) for hour, name, work in random_wishes(chance, plan, many=16)]
            works = Worths(plan, fars)
            rest = list(wishes)
            chance.shuffle(rest)
            for hour in sorted(chance.randint(0, 90) for _ in range(chance.choice([0, 3, 30]))) + [110]:
                for row in list(rest):
                    if row[0] < hour or chance.random() < 0.3:
                        works.wish(*row)
                        rest.remove(row)
                works.run(hour)
                self.assertEqual(told(works), PlainWorths(plan.tasks(), fars, wishes, hour).told())
            many += len(works.alarms()) > 1 and len(works.dropped_jobs()) > 1
        self.assertGreater(many, 15)


class TestBounds(unittest.TestCase):
    def test_by_hand(self):
        plan = Plan([Task("a", rank=1, gap=10, most=2), Task("m", rank=2, gap=20, most=3, wait=1), Task("o", rank=3, gap=40, most=4)])
        fars = {"m": 5, "o": 9}
        self.assertEqual([usual_bound(plan, fars, name) for name in "amo"], [2, 6, 9])
        # m: 5 + 2 for a within 5; o: 9 + 5 for m within what is told, and + 2 for a within 9.
        self.assertEqual([far_bound(plan, fars, name) for name in "amo"], [None, 8, 16])
        self.assertEqual(far_bound(plan=plan, fars={"o": 9}, name="o"), 9 + 3 + 2)
        self.assertIsNone(far_bound(plan, {"o": 9}, "m"))
        self.assertEqual(far_bound(plan, {"o": 4}, "o"), usual_bound(plan=plan, fars={"o": 4}, name="o"))

    def test_beyond_the_due(self):
        for due, told_bound in [(8, 8), (7, None), (5, None), (4, None)]:
            plan = Plan([Task("a", rank=1, gap=10, most=2), Task("m", rank=2, gap=20, most=3, due=due)])
            self.assertEqual(far_bound(plan, {"m": 6}, "m"), told_bound)
            self.assertEqual(usual_bound(plan, {"m": 6}, "m"), 5 if due >= 5 else None)

    def test_all_time_filled_by_far(self):
        plan = Plan([Task("a", rank=1, gap=10, most=2), Task("m", rank=2, gap=200, most=3)])
        self.assertEqual((usual_bound(plan, {"a": 10, "m": 3}, "m"), far_bound(plan, {"a": 10, "m": 3}, "m")), (5, None))
        self.assertEqual(far_bound(plan, {"a": 9, "m": 3}, "m"), 30)
        self.assertEqual(far_bound(plan, {"a": 9, "m": 21}, "m"), None)

    def test_against_a_going_up_one_by_one(self):
        chance = random.Random(38)
        told_far = []
        for _ in range(400):
            plan = plain_plan(chance, waits=(0, 0, 3), many=5, gaps=(6, 40), most=5)
            tasks = plan.tasks()
            fars = {task.name: task.most + chance.choice([0, 1, 3, 9]) for task in tasks if chance.random() < 0.6}
            for task in tasks:
                self.assertEqual(usual_bound(plan, fars, task.name), plain_bound(tasks, task))
                far = plain_far_bound(tasks, fars, task) if task.name in fars else None
                self.assertEqual(far_bound(plan, fars, task.name), far)
                told_far.append(far)
        self.assertGreater(len([far for far in told_far if far is not None]), 200)

    def test_what_was_promised_is_kept(self):
        chance = random.Random(39)
        many = 0
        for _ in range(300):
            plan = plain_plan(chance, waits=(0, 0, 3), many=5, gaps=(6, 40), most=5)
            tasks = {task.name: task for task in plan.tasks()}
            fars = {name: task.most + chance.choice([0, 1, 3, 9]) for name, task in tasks.items() if chance.random() < 0.6}
            works = ran(plan, fars, [(hour, name, work + chance.choice([0, 2, 9])) for hour, name, work
                                     in random_wishes(chance, plan, many=30, hours=90)], 2000)
            dropped = works.dropped_jobs()
            for name, number, arrival, release, work, done, end in works.jobs():
                limit = far_bound(plan, fars, name) if name in fars else usual_bound(plan, fars, name)
                if limit is not None:
                    many += (name, number) in dropped
                    self.assertLessEqual(end, arrival + limit)
                if (name, number) in dropped:
                    self.assertNotIn(name, fars)
                    self.assertTrue(any(begin <= end < until or begin == end for begin, until in works.alarms()))
        self.assertGreater(many, 50)


class TestRefused(unittest.TestCase):
    def refused(self, error, fields, plan, fars, name=None):
        calls = [lambda: usual_bound(plan, fars, name or "n"), lambda: far_bound(plan, fars, name or "n")]
        if name is None:
            calls.append(lambda: Worths(plan, fars))
        for call in calls:
            with self.assertRaises(error) as caught:
                call()
            self.assertEqual(vars(caught.exception), fields)

    def locked(self):
        return Plan([Task("l", rank=3, gap=20, most=2, sections=[(0, 1, "x")]), Task("m", rank=2, gap=20, most=3),
                     Task("n", rank=1, gap=20, most=4), Task("k", rank=4, gap=20, most=4, sections=[(0, 1, "x")])])

    def test_sections_then_strangers_then_fars(self):
        self.refused(Sections, {"name": "l"}, self.locked(), {})
        self.refused(Sections, {"name": "l"}, self.locked(), {"z": 9, "m": 1})
        self.refused(Sections, {"name": "l"}, self.locked(), {}, "z")
        self.refused(NoTask, {"name": "z"}, three(), {"z": 9})
        self.refused(NoTask, {"name": "y"}, three(), {"z": 9, "m": 6, "y": 0})
        self.refused(NoTask, {"name": "z"}, three(), {"m": 2, "z": 9, "n": 1})
        self.refused(NoTask, {"name": "M"}, three(), {"m": 2, "M": 9})
        self.refused(BadTask, {"part": "most"}, three(), {"m": 2})
        self.refused(BadTask, {"part": "most"}, three(), {"l": 2, "n": 3, "m": 0})
        self.refused(BadTask, {"part": "most"}, three(), {"n": -1})

    def test_strangers_asked_for(self):
        self.refused(NoTask, {"name": "z"}, three(), {"m": 6}, "z")
        self.refused(NoTask, {"name": "z"}, three(), {"m": 2}, "z")
        self.refused(NoTask, {"name": "a"}, Plan(), {}, "a")
        self.assertIsNone(far_bound(three(), {"m": 3}, "n"))
        self.assertIsNone(far_bound(three(), {}, "l"))

    def test_wishes_and_hours(self):
        works = ran(three(), {"m": 6}, [(0, "m", 9), (1, "n", 4)], 5)
        before = told(works)
        for error, fields, call in [(Past, {"hour": 4}, lambda: works.wish(4, "z", 0)),
                                    (NoTask, {"name": "z"}, lambda: works.wish(5, "z", 0)),
                                    (BadWork, {"work": 0}, lambda: works.wish(hour=5, task="m", work=0)),
                                    (Past, {"hour": 4}, lambda: works.run(hour=4))]:
            with self.assertRaises(error) as caught:
                call()
            self.assertEqual(vars(caught.exception), fields)
        self.assertEqual(told(works), before)
        works.run(20)
        self.assertEqual(works.trace(), [(0, 6, "m", 0)])

    def test_a_plan_of_none(self):
        works = Worths(plan=Plan(), fars={})
        works.run(GREAT)
        self.assertEqual(told(works), (GREAT, [], [], [], [], []))

    def test_the_usual_bound_is_that_of_the_plan(self):
        self.assertEqual([usual_bound(three(), {"m": 6}, name) for name in "lmn"], [bound(three(), name) for name in "lmn"])


if __name__ == "__main__":
    unittest.main()
