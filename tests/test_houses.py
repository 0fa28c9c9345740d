"""[31], [32] and of [4] what it says of changes: houses, and of [2] and [3] what holds of them."""

import random
import unittest

from plain import random_plan, random_wishes
from plain_more import PlainHouse
from promptworks.bounds import bound, is_kept
from promptworks.errors import BadWork, NoPlan, NoTask, Past
from promptworks.houses import House
from promptworks.plans import Plan
from promptworks.tasks import Task

GREAT = 10 ** 12


def one(name="a", gap=10, most=4, **named):
    return Plan([Task(name, rank=1, gap=gap, most=most, **named)])


def two():
    """Plans: day has a and b, night has b (of a greater most) and c, none has no tasks."""
    return {"day": Plan([Task("a", rank=1, gap=10, most=3), Task("b", rank=2, gap=20, most=5)]),
            "night": Plan([Task("b", rank=1, gap=15, most=6, wait=2), Task("c", rank=2, gap=30, most=8)]),
            "none": Plan()}


def told(house):
    return (house.now(), house.plan(), house.changes(), house.dropped(), house.jobs())


def ran(plans, first, wishes, changes, hour):
    house = House(plans, first)
    for row in wishes:
        house.wish(*row)
    for row in changes:
        house.change(*row)
    house.run(hour)
    return house


class TestHouse(unittest.TestCase):
    def test_without_a_change_it_runs_as_works_do(self):
        house = ran(two(), "day", [(0, "b", 9), (1, "a", 2), (1, "a", 1)], [], 30)
        self.assertEqual(told(house), (30, "day", [], [], [(0, "a", 0, 1, 1, 1, 1, 2), (0, "a", 1, 11, 11, 2, 2, 13),
                                                           (0, "b", 0, 0, 0, 9, 5, 6)]))

    def test_who_goes_on_and_who_is_held(self):
        wishes = [(0, "b", 5), (4, "a", 3), (5, "b", 5), (6, "b", 2), (9, "c", 1)]
        house = ran(two(), "day", wishes, [(5, "night")], 40)
        # Those wished at 0 and 4 go on up to 8; those for 5 and 6 are wished then, by works, that for 9 at 9.
        self.assertEqual(house.changes(), [(5, 8, "night")])
        self.assertEqual(house.jobs(), [(0, "a", 0, 4, 4, 3, 3, 7), (0, "b", 0, 0, 0, 5, 5, 8),
                                        (1, "b", 0, 6, 8, 2, 2, 10), (1, "b", 1, 21, 21, 5, 5, 26),
                                        (1, "c", 0, 9, 9, 1, 1, 11)])
        self.assertEqual(house.plan(), "night")

    def test_a_wish_of_the_very_hour_of_a_change_is_held(self):
        for hour, number in [(4, 0), (5, 1), (6, 1)]:
            house = ran({"a": one(), "b": one()}, "a", [(hour, "a", 4)], [(5, "b")], 30)
            self.assertEqual([row[0] for row in house.jobs()], [number])
        # At 4 it goes on, to 8; at 5 it is wished at the beginning, which is at 5.
        self.assertEqual(ran({"a": one(), "b": one()}, "a", [(4, "a", 4)], [(5, "b")], 30).changes(), [(5, 8, "b")])
        self.assertEqual(ran({"a": one(), "b": one()}, "a", [(5, "a", 4)], [(5, "b")], 30).changes(), [(5, 5, "b")])

    def test_a_job_that_the_gate_holds_beyond_the_change(self):
        for change, goes_on in [(9, False), (10, True), (11, True)]:
            house = ran({"a": one(), "b": one(gap=3)}, "a", [(0, "a", 1), (1, "a", 2)], [(change, "b")], 30)
            if goes_on:
                self.assertEqual(house.jobs(), [(0, "a", 0, 0, 0, 1, 1, 1), (0, "a", 1, 10, 10, 2, 2, 12)])
                self.assertEqual(house.changes(), [(change, 12, "b")])
            else:
                self.assertEqual(house.jobs(), [(0, "a", 0, 0, 0, 1, 1, 1), (1, "a", 0, 9, 9, 2, 2, 11)])
                self.assertEqual(house.changes(), [(9, 9, "b")])

    def test_a_job_held_by_the_gate_isnt_told_yet(self):
        house = House({"a": one(), "b": one()}, "a")
        house.wish(0, "a", 1)
        house.wish(1, "a", 2)
        for hour, many in [(0, 0), (1, 1), (5, 1), (10, 1), (11, 2)]:
            house.run(hour)
            self.assertEqual(len(house.jobs()), many, hour)

    def test_a_change_told_while_the_gate_holds_a_job(self):
        house = House({"a": one(), "b": one(gap=3)}, "a")
        house.wish(0, "a", 1)
        house.wish(1, "a", 2)
        house.run(8)
        house.change(9, "b")
        house.run(30)
        self.assertEqual(house.jobs(), [(0, "a", 0, 0, 0, 1, 1, 1), (1, "a", 0, 9, 9, 2, 2, 11)])

    def test_held_wishes_of_alike_works(self):
        # In b all of them are of the hour 5, as far apart as its gap; the later one is held again, and dropped.
        plans = {"a": one("x"), "b": Plan([Task("a", rank=1, gap=9, most=9)]), "c": Plan()}
        plans["a"] = Plan([Task("x", rank=1, gap=50, most=3), Task("a", rank=2, gap=50, most=1)])
        for wishes in [[(3, "a", 2), (4, "a", 2)], [(4, "a", 2), (3, "a", 2)]]:
            house = ran(plans, "a", [(0, "x", 3)] + wishes, [(2, "b"), (6, "c")], 40)
            self.assertEqual(house.changes(), [(2, 3, "b"), (6, 6, "c")])
            self.assertEqual(house.jobs(), [(0, "x", 0, 0, 0, 3, 3, 3), (1, "a", 0, 3, 3, 2, 2, 5)])
            self.assertEqual(house.dropped(), [(4, "a", 2)])
            house = ran(plans, "a", [(0, "x", 3), (1, "x", 3), (49, "a", 1)] + wishes, [(2, "b"), (4, "c")], 60)
            self.assertEqual(house.dropped(), [(1, "x", 3), (4, "a", 2), (49, "a", 1)])
        # One of less work goes ahead, whatever hour it was wished for.
        house = ran(plans, "a", [(0, "x", 3), (1, "x", 1), (2, "a", 3), (2, "a", 2)], [(2, "b")], 40)
        self.assertEqual([row[2:] for row in house.jobs() if row[1] == "a"], [(0, 3, 3, 2, 2, 5), (1, 12, 12, 3, 3, 15)])

    def test_of_alike_works_the_one_wished_for_the_earlier_hour_goes_first(self):
        long = Plan([Task("x", rank=1, gap=50, most=9)])
        plans = {"a": long, "b": Plan([Task("a", rank=1, gap=20, most=2)]), "c": Plan()}
        rows = [(hour, "a", 2) for hour in range(2, 8)]
        for chance in range(5):
            random.Random(chance).shuffle(rows)
            house = ran(plans, "a", [(0, "x", 9)] + rows, [(1, "b"), (30, "c")], 60)
            self.assertEqual(house.changes(), [(1, 9, "b"), (30, 31, "c")])
            self.assertEqual([row[:4] for row in house.jobs()], [(0, "x", 0, 0), (1, "a", 0, 9), (1, "a", 1, 29)])
            self.assertEqual(house.dropped(), [(hour, "a", 2) for hour in range(4, 8)])

    def test_changes_of_one_hour(self):
        house = ran(two(), "day", [(9, "c", 1)], [(5, "none"), (5, "night")], 20)
        self.assertEqual((house.changes(), house.dropped()), ([(5, 5, "night")], []))
        house = ran(two(), "day", [(9, "c", 1)], [(5, "night"), (5, "none")], 20)
        self.assertEqual((house.changes(), house.dropped()), ([(5, 5, "none")], [(9, "c", 1)]))

    def test_a_change_up_to_the_beginning_takes_the_place(self):
        # Asked for 2, all that go on are at their end at 5.
        for later, changes in [(3, [(2, 5, "none")]), (5, [(2, 5, "none")]), (6, [(2, 5, "night"), (6, 6, "none")])]:
            house = ran(two(), "day", [(0, "b", 5)], [(2, "night"), (later, "none")], 20)
            self.assertEqual(house.changes(), changes)
            self.assertEqual(house.plan(), "none")
        # Who goes on stays as it was: the wish for 3 is held though the last change is for 4.
        house = ran(two(), "day", [(0, "b", 5), (3, "a", 1)], [(2, "night"), (4, "day"), (3, "none")], 20)
        self.assertEqual(house.changes(), [(2, 5, "day")])
        self.assertEqual(house.jobs(), [(0, "b", 0, 0, 0, 5, 5, 5), (1, "a", 0, 5, 5, 1, 1, 6)])

    def test_a_change_told_just_at_the_beginning(self):
        house = ran(two(), "day", [(0, "b", 5)], [(2, "night")], 5)
        self.assertEqual((house.plan(), house.changes()), ("day", []))
        house.change(5, "none")
        house.wish(5, "c", 2)
        house.run(6)
        self.assertEqual((house.plan(), house.changes(), house.dropped()), ("none", [(2, 5, "none")], [(5, "c", 2)]))

    def test_what_begins_at_now_isnt_told(self):
        house = ran(two(), "day", [(3, "c", 2), (5, "c", 1)], [(5, "night"), (0, "day")], 0)
        self.assertEqual(told(house), (0, "day", [], [], []))
        house.run(5)
        self.assertEqual(told(house), (5, "day", [(0, 0, "day")], [(3, "c", 2)], []))
        house.run(6)
        self.assertEqual(told(house), (6, "night", [(0, 0, "day"), (5, 5, "night")], [(3, "c", 2)],
                                       [(2, "c", 0, 5, 5, 1, 1, 6)]))

    def test_a_change_at_0(self):
        house = ran(two(), "day", [(0, "c", 8), (0, "a", 1)], [(0, "night")], 0)
        self.assertEqual(told(house), (0, "day", [], [], []))
        house.run(1)
        self.assertEqual(told(house), (1, "night", [(0, 0, "night")], [(0, "a", 1)], [(1, "c", 0, 0, 0, 8, 1, None)]))

    def test_a_change_to_the_same_plan(self):
        house = ran({"a": one()}, "a", [(0, "a", 4), (1, "a", 4), (2, "a", 3)], [(3, "a"), (25, "a")], 60)
        # Nothing of the arrivals of before counts any more.
        self.assertEqual(house.changes(), [(3, 4, "a"), (25, 25, "a")])
        self.assertEqual(house.jobs(), [(0, "a", 0, 0, 0, 4, 4, 4), (1, "a", 0, 4, 4, 3, 3, 7), (1, "a", 1, 14, 14, 4, 4, 18)])

    def test_a_plan_that_lacks_the_task(self):
        house = ran(two(), "day", [(2, "c", 1), (0, "b", 5), (4, "a", 1), (9, "a", 2)], [(3, "night")], 4)
        # The wish for 2 has its hour in the plan of day, which drops it; that for 4 waits for night.
        self.assertEqual(house.dropped(), [(2, "c", 1)])
        house.run(5)
        self.assertEqual(house.dropped(), [(2, "c", 1)])
        house.run(6)
        self.assertEqual(house.dropped(), [(2, "c", 1), (4, "a", 1)])
        house.run(9)
        self.assertEqual(house.dropped(), [(2, "c", 1), (4, "a", 1)])
        house.run(10)
        self.assertEqual(house.dropped(), [(2, "c", 1), (4, "a", 1), (9, "a", 2)])
        self.assertEqual(house.jobs(), [(0, "b", 0, 0, 0, 5, 5, 5)])

    def test_a_plan_of_none(self):
        house = ran(two(), "none", [(0, "a", 1), (7, "c", 3), (7, "c", 2), (7, "b", 9)], [(8, "day")], 20)
        self.assertEqual(told(house), (20, "day", [(8, 8, "day")],
                                       [(0, "a", 1), (7, "b", 9), (7, "c", 2), (7, "c", 3)], []))
        house = ran({"none": Plan()}, "none", [], [(4, "none")], GREAT)
        self.assertEqual(told(house), (GREAT, "none", [(4, 4, "none")], [], []))

    def test_arrivals_below_the_beginning(self):
        plans = {"a": one(), "b": one(wait=7)}
        house = ran(plans, "a", [(0, "a", 4), (3, "a", 1), (3, "a", 2)], [(0, "b")], 20)
        self.assertEqual(house.jobs(), [(1, "a", 0, -7, 0, 4, 4, 4), (1, "a", 1, 3, 3, 1, 1, 5), (1, "a", 2, 13, 13, 2, 2, 15)])

    def test_a_job_beyond_its_most_is_struck(self):
        house = ran({"a": one(), "b": one(most=2)}, "a", [(0, "a", 9), (1, "a", 9)], [(1, "b")], 30)
        self.assertEqual(house.jobs(), [(0, "a", 0, 0, 0, 9, 4, 4), (1, "a", 0, 4, 4, 9, 2, 6)])

    def test_sections_of_each_plan(self):
        locked = Plan([Task("a", rank=1, gap=50, most=3, sections=[(0, 1, "x")]),
                       Task("b", rank=2, gap=50, most=9, sections=[(0, 6, "x")])])
        house = ran({"a": one(), "b": locked}, "a", [(3, "b", 8), (4, "a", 2), (2, "a", 4)], [(3, "b")], 40)
        self.assertEqual(house.changes(), [(3, 6, "b")])
        self.assertEqual(house.jobs()[1:], [(1, "a", 0, 6, 6, 2, 2, 8), (1, "b", 0, 6, 6, 8, 8, 16)])
        house = ran({"b": locked}, "b", [(0, "b", 8), (2, "a", 2)], [], 40)
        self.assertEqual([row[-1] for row in house.jobs()], [8, 10])


class TestRefused(unittest.TestCase):
    def refused(self, error, fields, call, *told, **named):
        with self.assertRaises(error) as caught:
            call(*told, **named)
        self.assertEqual(vars(caught.exception), fields)

    def test_a_first_plan_that_isnt_there(self):
        self.refused(NoPlan, {"name": "eve"}, House, two(), "eve")
        self.refused(NoPlan, {"name": ""}, House, plans={}, first="")

    def test_wishes_changes_and_hours(self):
        house = ran(two(), "day", [(0, "b", 5)], [(20, "night")], 7)
        before = told(house)
        self.refused(Past, {"hour": 6}, house.wish, 6, "z", 0)
        self.refused(Past, {"hour": -1}, house.wish, -1, "a", 1)
        self.refused(NoTask, {"name": "z"}, house.wish, 7, "z", 0)
        self.refused(NoTask, {"name": "day"}, house.wish, hour=7, task="day", work=1)
        self.refused(BadWork, {"work": 0}, house.wish, 7, "c", 0)
        self.refused(BadWork, {"work": -3}, house.wish, 99, "a", -3)
        self.refused(Past, {"hour": 6}, house.change, 6, "eve")
        self.refused(NoPlan, {"name": "eve"}, house.change, hour=7, name="eve")
        self.refused(NoPlan, {"name": ""}, house.change, 20, "")
        self.refused(Past, {"hour": 6}, house.run, hour=6)
        self.assertEqual(told(house), before)
        house.run(30)
        self.assertEqual(told(house), (30, "night", [(20, 20, "night")], [], before[4]))

    def test_now_itself_isnt_past(self):
        house = ran(two(), "day", [], [], 7)
        house.run(7)
        house.wish(7, "c", 1)
        house.change(7, "night")
        house.run(8)
        self.assertEqual(house.jobs(), [(1, "c", 0, 7, 7, 1, 1, 8)])

    def test_a_task_of_any_plan_may_be_wished(self):
        house = House(two(), "none")
        for name in "abc":
            house.wish(0, name, 1)
        self.refused(NoTask, {"name": "d"}, house.wish, 0, "d", 1)

    def test_what_is_handed_in_and_told_is_kept_apart(self):
        plans = two()
        house = House(plans, "day")
        plans["day"] = Plan()
        del plans["night"]
        house.wish(0, "a", 1)
        house.wish(0, "c", 1)
        house.change(2, "night")
        house.run(9)
        held = [house.changes(), house.dropped(), house.jobs()]
        self.assertEqual(held, [[(2, 2, "night")], [(0, "c", 1)], [(0, "a", 0, 0, 0, 1, 1, 1)]])
        for rows in [house.changes(), house.dropped(), house.jobs()]:
            rows.clear()
        self.assertEqual([house.changes(), house.dropped(), house.jobs()], held)
        house.wish(9, "a", 1)
        house.change(12, "day")
        house.wish(12, "b", 1)
        house.run(20)
        self.assertEqual([len(rows) for rows in held], [1, 1, 1])
        self.assertEqual([len(rows) for rows in [house.changes(), house.dropped(), house.jobs()]], [2, 2, 2])


class TestGreatNumbers(unittest.TestCase):
    def test_nothing_goes_tick_by_tick(self):
        plans = {"a": one(gap=GREAT, most=GREAT // 2), "b": one(gap=GREAT // 2, most=GREAT // 4, wait=GREAT)}
        house = ran(plans, "a", [(1, "a", GREAT), (2, "a", GREAT), (3, "a", 5)], [(GREAT // 4, "b")], 3 * GREAT)
        self.assertEqual(house.changes(), [(GREAT // 4, GREAT // 2 + 1, "b")])
        self.assertEqual(house.jobs(), [
            (0, "a", 0, 1, 1, GREAT, GREAT // 2, GREAT // 2 + 1),
            (1, "a", 0, 1 - GREAT // 2, GREAT // 2 + 1, 5, 5, GREAT // 2 + 6),
            (1, "a", 1, 1, GREAT // 2 + 1, GREAT, GREAT // 4, 3 * GREAT // 4 + 6)])

    def test_many_changes(self):
        house = ran(two(), "day", [(hour, "b", 2) for hour in range(0, 6000, 20)],
                    [(hour, ["night", "day"][hour // 30 & 1]) for hour in range(0, 6000, 30)], 6000)
        self.assertEqual(len(house.changes()), 200)
        self.assertEqual(len(house.jobs()), 300)


def random_house(chance):
    """Plans by names, small ones, and wishes and changes of them."""
    plans = {name: random_plan(chance, many=3, gaps=(6, 20), most=5) for name in ["p", "q", "r"][:chance.randint(1, 3)]}
    if chance.random() < 0.2:
        plans["o"] = Plan()
    wishes = []
    for plan in plans.values():
        if len(plan):
            wishes += random_wishes(chance, plan, many=8, hours=50)
    changes = [(chance.randrange(50), chance.choice(list(plans))) for _ in range(chance.randint(0, 6))]
    return plans, chance.choice(list(plans)), wishes, changes


def plain(plans, first, wishes, changes, hour):
    return PlainHouse({name: plan.tasks() for name, plan in plans.items()}, first, wishes, changes, hour).told()


class TestAgainstThePlainMachine(unittest.TestCase):
    def test_run_at_once(self):
        chance = random.Random(31)
        for _ in range(400):
            rows = random_house(chance)
            hour = chance.randint(0, 110)
            self.assertEqual(told(ran(*rows, hour)), plain(*rows, hour), rows)

    def test_at_each_hour(self):
        chance = random.Random(32)
        for _ in range(30):
            plans, first, wishes, changes = random_house(chance)
            house = ran(plans, first, wishes, changes, 0)
            for hour in range(0, 80, chance.choice([1, 1, 2, 5])):
                house.run(hour)
                self.assertEqual(told(house), plain(plans, first, wishes, changes, hour))

    def test_whatever_the_order_and_the_cuts(self):
        chance = random.Random(33)
        for _ in range(200):
            plans, first, wishes, changes = random_house(chance)
            # Of changes of one hour the last told counts: there is one of each here.
            changes = list(dict(changes).items())
            house = House(plans, first)
            rest = [(row[0], house.wish, row) for row in wishes] + [(row[0], house.change, row) for row in changes]
            chance.shuffle(rest)
            for hour in sorted(chance.randint(0, 60) for _ in range(chance.randint(0, 12))) + [120]:
                later = []
                for at, call, row in rest:
                    if at < hour or chance.random() < 0.3:
                        call(*row)
                    else:
                        later.append((at, call, row))
                rest = later
                house.run(hour)
            self.assertEqual(told(house), told(ran(plans, first, wishes, changes, 120)))

    def test_what_was_promised_is_kept(self):
        chance = random.Random(34)
        seen = 0
        while seen < 100:
            plans, first, wishes, changes = random_house(chance)
            if not all(is_kept(plan) for plan in plans.values()):
                continue
            seen += 1
            house = ran(plans, first, wishes, changes, 1000)
            names = [first] + [row[2] for row in house.changes()]
            for number, name, place, arrival, release, work, done, end in house.jobs():
                self.assertLessEqual(end, arrival + bound(plans[names[number]], name))
            for name, (asked, begun, behind) in zip(names, house.changes()):
                plan = plans[name]
                longest = max([0] + [bound(plan, task.name) for task in plan.tasks()])
                self.assertTrue(asked <= begun <= asked + longest)


if __name__ == "__main__":
    unittest.main()
