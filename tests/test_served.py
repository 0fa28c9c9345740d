"""[36]: served requests, and of [2] and [3] what holds of them."""

import random
import unittest

from plain import random_plan, random_wishes
from plain_more import PlainServed
from promptworks.bounds import bound
from promptworks.errors import BadWork, NoBound, NoTask, Past
from promptworks.plans import Plan
from promptworks.served import Served
from promptworks.tasks import Task

GREAT = 10 ** 12


def pair(wait=0):
    """A task that serves, s, below a more urgent one: its bound is 5 + wait."""
    return Plan([Task("a", rank=1, gap=8, most=2), Task("s", rank=2, gap=10, most=3, wait=wait)])


def served(rows, hour=0, wait=0):
    told = Served(pair(wait), "s")
    for row in rows:
        told.request(*row)
    told.run(hour)
    return told


class TestServed(unittest.TestCase):
    def test_told_at_once(self):
        told = Served(pair(), "s")
        self.assertEqual(bound(pair(), "s"), 5)
        for hour, ticks, promised in [(0, 1, 5), (0, 2, 5), (0, 1, 15), (4, 2, 15), (10, 1, 25), (10, 2, 25), (11, 1, 35),
                                      (20, 2, 35), (20, 7, 65), (90, 3, 95), (91, 9, 125), (101, 1, 135)]:
            self.assertEqual(told.request(hour, ticks), promised, (hour, ticks))
        self.assertEqual([row[:3] for row in told.requests()][:3], [(0, 1, 5), (0, 2, 5), (0, 1, 15)])

    def test_the_wishes_of_the_task(self):
        told = served([(0, 1), (0, 4), (5, 1), (25, 7), (41, 2)], 100)
        self.assertEqual([row[1:5] for row in told.jobs()],
                         [(0, 0, 0, 3), (1, 10, 10, 3), (2, 30, 30, 3), (3, 40, 40, 3), (4, 50, 50, 3)])
        self.assertEqual(told.requests(), [(0, 1, 5, 1), (0, 4, 15, 12), (5, 1, 15, 13), (25, 7, 55, 51), (41, 2, 55, 53)])

    def test_no_ticks_no_wish(self):
        told = served([], 100)
        self.assertEqual((told.jobs(), told.requests(), told.now()), ([], [], 100))
        told.request(100, 1)
        told.run(101)
        self.assertEqual(told.jobs(), [("s", 0, 100, 100, 1, 1, 101)])

    def test_requests_of_one_hour_are_served_in_the_order_told(self):
        told = served([(2, 2), (2, 1), (2, 5), (2, 1)], 60)
        self.assertEqual(told.requests(), [(2, 2, 15, 12), (2, 1, 15, 13), (2, 5, 35, 32), (2, 1, 35, 33)])

    def test_more_ticks_than_the_most(self):
        for ticks, promised, jobs in [(3, 5, [3]), (4, 15, [3, 1]), (6, 15, [3, 3]), (7, 25, [3, 3, 1])]:
            told = Served(pair(), "s")
            self.assertEqual(told.request(0, ticks), promised)
            told.run(100)
            self.assertEqual([row[4] for row in told.jobs()], jobs)

    def test_told_just_at_the_hour_of_a_wish(self):
        told = served([(3, 1)], 10)
        self.assertEqual(told.request(10, 1), 15)
        told.run(20)
        self.assertEqual([row[2:5] for row in told.jobs()], [(10, 10, 2)])
        # One tick later it is too late for that wish.
        told = served([(3, 1)], 11)
        self.assertEqual(told.request(11, 1), 25)
        told.run(30)
        self.assertEqual([row[2:5] for row in told.jobs()], [(10, 10, 1), (20, 20, 1)])

    def test_ticks_left_over_from_one_ahead(self):
        told = served([(0, 4)], 5)
        self.assertEqual(told.request(7, 1), 15)
        self.assertEqual(told.request(7, 1), 15)
        self.assertEqual(told.request(7, 1), 25)
        told.run(60)
        self.assertEqual([row[2:5] for row in told.jobs()], [(0, 0, 3), (10, 10, 3), (20, 20, 1)])

    def test_done_at_now(self):
        told = served([(0, 2), (0, 2)])
        for hour, done in [(0, [None, None]), (1, [None, None]), (2, [2, None]), (3, [2, None]), (10, [2, None]), (11, [2, 11])]:
            told.run(hour)
            self.assertEqual([row[3] for row in told.requests()], done, hour)

    def test_the_wait(self):
        told = served([(0, 4)], 40, wait=4)
        self.assertEqual(told.requests(), [(0, 4, 19, 11)])
        self.assertEqual([row[2:4] for row in told.jobs()], [(-4, 0), (6, 10)])

    def test_others_are_wished(self):
        told = Served(pair(), "s")
        told.wish(0, "a", 9)
        told.wish(hour=9, task="a", work=1)
        self.assertEqual(told.request(0, 3), 5)
        self.assertEqual(told.request(hour=0, ticks=1), 15)
        told.run(40)
        self.assertEqual(told.requests(), [(0, 3, 5, 5), (0, 1, 15, 11)])
        self.assertEqual(told.jobs(), [("a", 0, 0, 0, 9, 2, 2), ("a", 1, 9, 9, 1, 1, 10),
                                       ("s", 0, 0, 0, 3, 3, 5), ("s", 1, 10, 10, 1, 1, 11)])

    def test_great_numbers(self):
        told = Served(Plan([Task("s", rank=1, gap=GREAT, most=GREAT // 2)]), "s")
        self.assertEqual(told.request(1, GREAT), 2 * GREAT + GREAT // 2)
        told.run(2 * GREAT)
        self.assertEqual(told.requests(), [(1, GREAT, 2 * GREAT + GREAT // 2, None)])
        told.run(3 * GREAT)
        self.assertEqual(told.requests(), [(1, GREAT, 2 * GREAT + GREAT // 2, 2 * GREAT + GREAT // 2)])
        # Very many wishes are told ahead of at once.
        told = Served(Plan([Task("s", rank=1, gap=2, most=1)]), "s")
        self.assertEqual(told.request(0, GREAT), 2 * GREAT - 1)
        self.assertEqual(told.request(GREAT, 1), 2 * GREAT + 1)
        told.run(9)
        self.assertEqual(len(told.jobs()), 5)

    def test_many_requests(self):
        told = Served(Plan([Task("s", rank=1, gap=3, most=2)]), "s")
        for hour in range(3000):
            self.assertGreaterEqual(told.request(hour, 1), hour)
        told.run(10000)
        self.assertEqual([row[3] <= row[2] for row in told.requests()], [True] * 3000)

    def test_told_lists_are_new(self):
        told = served([(0, 3)], 9)
        held = (told.requests(), told.jobs())
        self.assertEqual(held, ([(0, 3, 5, 3)], [("s", 0, 0, 0, 3, 3, 3)]))
        told.requests().clear()
        told.jobs().clear()
        self.assertEqual((told.requests(), told.jobs()), held)
        told.request(9, 1)
        told.run(20)
        self.assertEqual([len(rows) for rows in held], [1, 1])


class TestRefused(unittest.TestCase):
    def refused(self, error, fields, call, *things, **named):
        with self.assertRaises(error) as caught:
            call(*things, **named)
        self.assertEqual(vars(caught.exception), fields)

    def test_a_task_that_isnt_there(self):
        self.refused(NoTask, {"name": "z"}, Served, pair(), "z")
        self.refused(NoTask, {"name": ""}, Served, plan=Plan(), name="")

    def test_requests(self):
        told = served([(0, 1), (30, 1)], 20)
        self.refused(Past, {"hour": 19}, told.request, 19, 0)
        self.refused(Past, {"hour": 29}, told.request, 29, 1)
        self.refused(Past, {"hour": 29}, told.request, 29, 0)
        self.refused(BadWork, {"work": 0}, told.request, 30, 0)
        self.refused(BadWork, {"work": -5}, told.request, hour=31, ticks=-5)
        self.assertEqual(told.requests(), [(0, 1, 5, 1), (30, 1, 35, None)])
        self.assertEqual(told.request(30, 2), 35)
        self.refused(Past, {"hour": -1}, Served(pair(), "s").request, -1, 1)
        told.run(60)
        self.refused(Past, {"hour": 59}, told.request, 59, 1)
        self.assertEqual(told.request(60, 1), 65)

    def test_a_task_without_a_bound(self):
        plan = Plan([Task("a", rank=1, gap=8, most=8), Task("s", rank=2, gap=10, most=3)])
        told = Served(plan, "s")
        self.refused(Past, {"hour": -1}, told.request, -1, 0)
        self.refused(BadWork, {"work": 0}, told.request, 0, 0)
        self.refused(NoBound, {"name": "s"}, told.request, 0, 1)
        told.run(20)
        self.assertEqual((told.requests(), told.jobs()), ([], []))
        self.refused(Past, {"hour": 19}, told.request, 19, 1)

    def test_wishes_and_hours(self):
        told = served([(0, 1)], 20)
        self.refused(Past, {"hour": 19}, told.wish, 19, "s", 0)
        self.refused(NoTask, {"name": "s"}, told.wish, 20, "s", 0)
        self.refused(NoTask, {"name": "s"}, told.wish, 20, "s", 3)
        self.refused(NoTask, {"name": "z"}, told.wish, 20, "z", 0)
        self.refused(BadWork, {"work": 0}, told.wish, 20, "a", 0)
        self.refused(Past, {"hour": 19}, told.wish, 19, "a", 0)
        self.refused(Past, {"hour": 19}, told.run, 19)
        self.assertEqual((told.now(), told.requests(), len(told.jobs())), (20, [(0, 1, 5, 1)], 1))


class TestAgainstThePlainMachine(unittest.TestCase):
    def test_at_cuts(self):
        chance = random.Random(36)
        seen = 0
        while seen < 200:
            plan = random_plan(chance, many=4, gaps=(4, 24), most=6)
            task = chance.choice(plan.tasks())
            if bound(plan, task.name) is None:
                continue
            seen += 1
            wishes = [row for row in random_wishes(chance, plan, many=10) if row[1] != task.name]
            requests = [(chance.randrange(60), chance.randint(1, 2 * task.most)) for _ in range(chance.randint(0, 7))]
            requests.sort(key=lambda row: row[0])
            told = Served(plan, task.name)
            chance.shuffle(wishes)
            mine, others = list(requests), list(wishes)
            for hour in sorted(chance.randint(0, 120) for _ in range(chance.randint(0, 9))) + [200]:
                while mine and (mine[0][0] < hour or chance.random() < 0.3):
                    told.request(*mine.pop(0))
                for row in list(others):
                    if row[0] < hour or chance.random() < 0.3:
                        told.wish(*row)
                        others.remove(row)
                told.run(hour)
                plain = PlainServed(plan.tasks(), task.name, requests, wishes, hour)
                many = len(requests) - len(mine)
                self.assertEqual(told.requests(), plain.requests[:many])
                self.assertEqual(told.jobs(), plain.run.jobs())

    def test_each_is_done_by_the_hour_that_was_promised(self):
        chance = random.Random(37)
        seen = 0
        while seen < 100:
            plan = random_plan(chance, many=4, gaps=(4, 24), most=6)
            task = chance.choice(plan.tasks())
            if bound(plan, task.name) is None:
                continue
            seen += 1
            told = Served(plan, task.name)
            hour = 0
            for _ in range(6):
                hour += chance.randrange(20)
                told.request(hour, chance.randint(1, 3 * task.most))
            for row in random_wishes(chance, plan, many=40, hours=100):
                if row[1] != task.name:
                    told.wish(*row)
            told.run(1000)
            for row in told.requests():
                self.assertLessEqual(row[3], row[2])


if __name__ == "__main__":
    unittest.main()
