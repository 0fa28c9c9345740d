"""[33]: timed works, and of [2] and [3] what holds of them."""

import random
import unittest

from plain import PlainRun, random_plan, random_wishes
from promptworks.errors import BadWork, Every, NoTask, NoTimer, Past, Twice
from promptworks.plans import Plan
from promptworks.tasks import Task
from promptworks.timers import Timed
from promptworks.works import Works

GREAT = 10 ** 12


def pair():
    return Plan([Task("a", rank=1, gap=5, most=2), Task("b", rank=2, gap=9, most=4)])


def told(timed):
    return (timed.now(), timed.wished(), timed.jobs(), timed.struck(), timed.late(), timed.trace())


class TestTimed(unittest.TestCase):
    def test_a_timer_wishes_again_and_again(self):
        timed = Timed(pair())
        timed.start("t", task="a", first=3, every=7, work=2)
        for hour, many in [(0, 0), (3, 0), (4, 1), (10, 1), (11, 2), (17, 2), (18, 3)]:
            timed.run(hour)
            self.assertEqual(timed.wished(), [(3, "a", 2), (10, "a", 2), (17, "a", 2)][:many], hour)
        self.assertEqual(timed.jobs(), [("a", 0, 3, 3, 2, 2, 5), ("a", 1, 10, 10, 2, 2, 12), ("a", 2, 17, 17, 2, 1, None)])
        self.assertEqual(timed.trace(), [(3, 5, "a", 0), (10, 12, "a", 1), (17, 18, "a", 2)])

    def test_every_tick(self):
        timed = Timed(pair())
        timed.start("t", task="a", first=0, every=1, work=1)
        timed.run(4)
        self.assertEqual(timed.wished(), [(hour, "a", 1) for hour in range(4)])
        self.assertEqual([row[2] for row in timed.jobs()], [0, 5, 10, 15])

    def test_stopped_hours(self):
        for stop, hours in [(3, []), (4, [3]), (10, [3]), (11, [3, 10]), (17, [3, 10]), (2, []), (0, [])]:
            timed = Timed(pair())
            timed.start("t", task="a", first=3, every=7, work=1)
            timed.stop("t", stop)
            timed.run(20)
            self.assertEqual([row[0] for row in timed.wished()], [hour for hour in hours], stop)
        timed = Timed(pair())
        timed.start("t", task="a", first=3, every=7, work=1)
        timed.run(10)
        timed.stop("t", 10)
        timed.run(40)
        self.assertEqual([row[0] for row in timed.wished()], [3])

    def test_stopped_twice(self):
        for stops in [(11, 30), (30, 11), (11, 11)]:
            timed = Timed(pair())
            timed.start("t", task="a", first=3, every=7, work=1)
            for stop in stops:
                timed.stop("t", stop)
            timed.run(50)
            self.assertEqual([row[0] for row in timed.wished()], [3, 10])

    def test_by_hand_too(self):
        timed = Timed(pair())
        timed.start("t", task="a", first=3, every=10, work=2)
        timed.wish(3, "a", 1)
        timed.wish(hour=13, task="a", work=2)
        timed.run(30)
        self.assertEqual(timed.wished(), [(3, "a", 2), (13, "a", 2), (23, "a", 2)])
        self.assertEqual([(row[1], row[2], row[4]) for row in timed.jobs()], [(0, 3, 1), (1, 8, 2), (2, 13, 2), (3, 18, 2), (4, 23, 2)])

    def test_wished_at_now_by_hand_where_a_timer_wishes(self):
        timed = Timed(pair())
        timed.start("t", task="a", first=5, every=5, work=2)
        timed.run(5)
        timed.wish(5, "a", 1)
        timed.run(6)
        self.assertEqual((timed.wished(), timed.jobs()),
                         ([(5, "a", 2)], [("a", 0, 5, 5, 1, 1, 6), ("a", 1, 10, 10, 2, 0, None)]))

    def test_the_order_of_what_is_told(self):
        timed = Timed(pair())
        timed.start("z", task="b", first=0, every=8, work=9)
        timed.start("y", task="a", first=4, every=4, work=2)
        timed.start("x", task="a", first=8, every=4, work=1)
        timed.run(9)
        self.assertEqual(timed.wished(), [(0, "b", 9), (4, "a", 2), (8, "a", 1), (8, "a", 2), (8, "b", 9)])
        self.assertEqual(timed.struck(), [("b", 0)])
        timed.run(30)
        self.assertEqual(timed.struck(), [("b", 0), ("b", 1), ("b", 2)])

    def test_gate_and_guard(self):
        for doors, rows in [({}, [(0, 2), (5, 7)]), ({"gate": False}, [(0, 2), (2, 4)]),
                            ({"guard": False}, [(0, 9), (9, 18)]), ({"gate": False, "guard": False}, [(0, 9), (9, 18)])]:
            timed = Timed(pair(), **doors)
            timed.start("t", task="a", first=0, every=1, work=9)
            timed.stop("t", 2)
            timed.run(30)
            self.assertEqual([row[:2] for row in timed.trace()], rows)
        self.assertEqual(timed.late(), [("a", 0), ("a", 1)])
        with self.assertRaises(TypeError):
            Timed(pair(), True)

    def test_great_numbers(self):
        timed = Timed(Plan([Task("a", rank=1, gap=GREAT, most=GREAT)]))
        timed.start("t", task="a", first=7, every=GREAT, work=GREAT)
        timed.start("u", task="a", first=GREAT, every=GREAT, work=1)
        timed.stop("u", GREAT)
        timed.run(GREAT)
        self.assertEqual(told(timed), (GREAT, [(7, "a", GREAT)], [("a", 0, 7, 7, GREAT, GREAT - 7, None)], [], [],
                                       [(7, GREAT, "a", 0)]))
        timed.stop("t", 2 * GREAT + 7)
        timed.run(3 * GREAT)
        self.assertEqual(timed.wished(), [(7, "a", GREAT), (GREAT + 7, "a", GREAT)])

    def test_told_lists_are_new(self):
        timed = Timed(Plan([Task("a", rank=1, gap=3, most=4, due=2)]))
        timed.start("t", task="a", first=0, every=9, work=5)
        timed.run(9)
        held = told(timed)
        self.assertEqual(held, (9, [(0, "a", 5)], [("a", 0, 0, 0, 5, 4, 4)], [("a", 0)], [("a", 0)], [(0, 4, "a", 0)]))
        for rows in told(timed)[1:]:
            rows.clear()
        self.assertEqual(told(timed), held)
        timed.run(30)
        self.assertEqual([len(rows) for rows in held[1:]], [1] * 5)


class TestRefused(unittest.TestCase):
    def refused(self, error, fields, call, *things, **named):
        with self.assertRaises(error) as caught:
            call(*things, **named)
        self.assertEqual(vars(caught.exception), fields)

    def timed(self):
        timed = Timed(pair())
        timed.start("t", task="a", first=3, every=7, work=2)
        timed.start("u", task="b", first=9, every=9, work=1)
        timed.stop("u", 9)
        timed.run(5)
        return timed

    def test_starts(self):
        timed = self.timed()
        self.refused(Past, {"hour": 4}, timed.start, "t", task="z", first=4, every=0, work=0)
        self.refused(NoTask, {"name": "z"}, timed.start, "t", task="z", first=5, every=0, work=0)
        self.refused(BadWork, {"work": 0}, timed.start, "t", task="a", first=5, every=0, work=0)
        self.refused(Every, {"every": 0}, timed.start, "t", task="a", first=5, every=0, work=1)
        self.refused(Every, {"every": -4}, timed.start, name="v", task="a", first=5, every=-4, work=1)
        self.refused(Twice, {"name": "t"}, timed.start, "t", task="a", first=5, every=1, work=1)
        self.refused(Twice, {"name": "u"}, timed.start, "u", task="a", first=5, every=1, work=1)
        with self.assertRaises(TypeError):
            timed.start("v", "a", 5, 1, 1)
        timed.run(40)
        self.assertEqual([row[0] for row in timed.wished()], [3, 10, 17, 24, 31, 38])

    def test_stops(self):
        timed = self.timed()
        self.refused(Past, {"hour": 4}, timed.stop, "v", 4)
        self.refused(NoTimer, {"name": "v"}, timed.stop, "v", 5)
        self.refused(NoTimer, {"name": "a"}, timed.stop, name="a", hour=99)
        self.refused(Past, {"hour": 4}, timed.stop, "t", 4)
        timed.run(20)
        self.assertEqual([row[0] for row in timed.wished()], [3, 10, 17])

    def test_wishes_and_hours(self):
        timed = self.timed()
        before = told(timed)
        self.refused(Past, {"hour": 4}, timed.wish, 4, "z", 0)
        self.refused(NoTask, {"name": "t"}, timed.wish, 5, "t", 0)
        self.refused(BadWork, {"work": 0}, timed.wish, 5, "a", 0)
        self.refused(Past, {"hour": 4}, timed.run, 4)
        self.assertEqual(told(timed), before)
        timed.run(5)
        self.assertEqual(told(timed), before)

    def test_a_first_hour_of_now(self):
        timed = self.timed()
        timed.start("v", task="b", first=5, every=1, work=1)
        timed.stop("v", 6)
        timed.run(7)
        self.assertEqual(timed.wished(), [(3, "a", 2), (5, "b", 1)])


class TestAgainstThePlainMachine(unittest.TestCase):
    def test_just_as_if_told_by_hand(self):
        chance = random.Random(33)
        for _ in range(200):
            plan = random_plan(chance, most=7)
            doors = {"gate": chance.choice([True, False]), "guard": chance.choice([True, False])}
            timed = Timed(plan, **doors)
            by_hand = random_wishes(chance, plan, many=6)
            made = []
            for place in range(chance.randint(0, 4)):
                name = f"t{place}"
                task = chance.choice(plan.tasks())
                first, every, work = chance.randrange(30), chance.randint(3, 20), chance.randint(1, task.most + 2)
                timed.start(name, task=task.name, first=first, every=every, work=work)
                stop = 200
                for _ in range(chance.choice([0, 1, 2])):
                    told_stop = chance.randrange(80)
                    timed.stop(name, told_stop)
                    stop = min(stop, told_stop)
                made += [(hour, task.name, work) for hour in range(first, stop, every)]
            for row in by_hand:
                timed.wish(*row)
            for hour in sorted(chance.randint(0, 90) for _ in range(chance.randint(0, 9))) + [90]:
                timed.run(hour)
                mine = sorted(row for row in made if row[0] < hour)
                run = PlainRun(plan.tasks(), mine + by_hand, hour, **doors)
                self.assertEqual(told(timed), (hour, mine, run.jobs(), run.struck(), run.late(), run.trace()))
            works = Works(plan, **doors)
            works.wishes(mine + by_hand)
            works.run(90)
            self.assertEqual(told(timed)[2:], (works.jobs(), works.struck(), works.late(), works.trace()))


if __name__ == "__main__":
    unittest.main()
