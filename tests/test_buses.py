"""[25] and [26]: messages, buses and the bounds of messages."""

import random
import unittest

from plain import odd_things, plain_bus_bound, random_bus
from promptworks.buses import Bus, Message, bus_bound
from promptworks.errors import BadTask, NoTask, Shared, Twice
from promptworks.tasks import Task

GREAT = 10 ** 12


def message(name, rank, gap=100, most=5, due=None, wait=0):
    return Message(name, rank=rank, gap=gap, most=most, due=due, wait=wait)


def bounds(bus, apart=None):
    return {each.name: bus_bound(bus, each.name, apart=apart) for each in bus.messages()}


class TestMessage(unittest.TestCase):
    def test_its_things(self):
        told = Message("alarm", rank=2, gap=30, most=4, due=20, wait=7)
        self.assertEqual(vars(told), {"name": "alarm", "rank": 2, "gap": 30, "most": 4, "due": 20, "wait": 7})
        told = Message(name="alarm", rank=2, gap=30, most=4)
        self.assertEqual((told.due, told.wait), (30, 0))
        with self.assertRaises(TypeError):
            Message("alarm", 2, 30, 4)
        with self.assertRaises(TypeError):
            Message("alarm", rank=2, gap=30, most=4, sections=())

    def test_edges(self):
        message("a", 1, gap=1, most=1, due=1)
        message("abcdefghijkl", GREAT, gap=GREAT, most=GREAT, due=GREAT, wait=GREAT)
        message("a", 1, gap=3, most=9)

    def refused(self, part, **named):
        told = {"name": "a", "rank": 1, "gap": 9, "most": 2, "due": 8, "wait": 3, **named}
        with self.assertRaises(BadTask) as caught:
            Message(**told)
        self.assertEqual(vars(caught.exception), {"part": part}, named)

    def test_anything_in_the_place_of_its_parts(self):
        for odd in odd_things():
            self.refused("name", name=odd)
            for part in ["rank", "gap", "most"]:
                self.refused(part, **{part: odd})
            if odd is not None:
                self.refused("due", due=odd)
            if type(odd) is not int or odd != 0:
                self.refused("wait", wait=odd)

    def test_due_above_the_gap(self):
        self.refused("due", due=10)
        self.refused("due", gap=7)
        self.assertEqual(message("a", 1, gap=9, due=9).due, 9)

    def test_the_first_of_several(self):
        wrong = [("name", "A"), ("rank", 0), ("gap", 0), ("most", 0), ("due", 0), ("wait", -1)]
        for place, (part, _) in enumerate(wrong):
            self.refused(part, **dict(wrong[place:]))
            for other, thing in wrong[place + 1:]:
                self.refused(part, **dict([wrong[place], (other, thing)]))

    def test_equal(self):
        told = {"name": "a", "rank": 1, "gap": 9, "most": 2, "due": 8, "wait": 3}
        self.assertEqual(Message(**told), Message(**told))
        for part, thing in [("name", "b"), ("rank", 2), ("gap", 10), ("most", 1), ("due", 7), ("wait", 0)]:
            self.assertNotEqual(Message(**told), Message(**{**told, part: thing}))
        self.assertEqual(message("a", 1, gap=9), message("a", 1, gap=9, due=9, wait=0))

    def test_equal_to_nothing_else(self):
        told = message("a", 1)
        self.assertFalse(told == Task("a", rank=1, gap=100, most=5))
        self.assertFalse(Task("a", rank=1, gap=100, most=5) == told)
        for odd in [None, 0, "a", (), "a rank 1", [told], vars(told)]:
            self.assertFalse(told == odd)
            self.assertTrue(told != odd)


class TestBus(unittest.TestCase):
    def test_messages_by_rank(self):
        rows = [message("b", 7), message("c", 1), message("a", GREAT), message("d", 3)]
        for bus in [Bus(rows), Bus(tuple(rows)), Bus(messages=rows)]:
            self.assertEqual(bus.messages(), [rows[1], rows[3], rows[0], rows[2]])
            self.assertEqual([bus.message(each.name) for each in rows], rows)
        self.assertEqual(Bus(rows).message(name="d"), rows[3])
        self.assertEqual([each.name for each in rows], ["b", "c", "a", "d"])

    def test_none(self):
        for bus in [Bus(), Bus([]), Bus(())]:
            self.assertEqual(bus.messages(), [])
            with self.assertRaises(NoTask):
                bus.message("a")

    def test_strangers(self):
        bus = Bus([message("a", 1)])
        for name in ["b", "", "A", "no such message at all"]:
            for ask in [bus.message, lambda told: bus_bound(bus, told), lambda told: bus_bound(bus, told, apart=9)]:
                with self.assertRaises(NoTask) as caught:
                    ask(name)
                self.assertEqual(vars(caught.exception), {"name": name})

    def test_names_and_ranks_that_repeat(self):
        for rows, error, fields in [
                ([message("a", 1), message("a", 2)], Twice, {"name": "a"}),
                ([message("a", 1), message("b", 1)], Shared, {"rank": 1}),
                ([message("a", 1), message("a", 1)], Twice, {"name": "a"}),
                ([message("a", 1), message("b", 2), message("c", 2), message("a", 3)], Shared, {"rank": 2}),
                ([message("a", 1), message("b", 2), message("b", 3), message("c", 1)], Twice, {"name": "b"}),
                ([message("a", 1), message("b", 2), message("a", 2)], Twice, {"name": "a"})]:
            with self.assertRaises(error) as caught:
                Bus(rows)
            self.assertEqual(vars(caught.exception), fields)

    def test_told_things_are_new(self):
        rows = [message("a", 1), message("b", 2)]
        bus = Bus(rows)
        bus.messages().clear()
        bus.messages()[0].most = 50
        bus.message("b").rank = 1
        rows[0].name = "z"
        rows.pop()
        self.assertEqual(bus.messages(), [message("a", 1), message("b", 2)])


class TestBusBound(unittest.TestCase):
    def test_one_message(self):
        self.assertEqual(bus_bound(Bus([message("a", 1, gap=4, most=4)]), "a"), 4)
        self.assertEqual(bus_bound(Bus([message("a", 1, gap=4, most=3, wait=1)]), "a"), 4)
        self.assertIsNone(bus_bound(Bus([message("a", 1, gap=4, most=5)]), "a"))
        self.assertIsNone(bus_bound(Bus([message("a", 1, gap=4, most=3, wait=2)]), "a"))
        self.assertIsNone(bus_bound(Bus([message("a", 1, gap=4, most=1, wait=GREAT)]), "a"))
        self.assertEqual(bus_bound(bus=Bus([message("a", 1)]), name="a", apart=None), 5)
        with self.assertRaises(TypeError):
            bus_bound(Bus([message("a", 1)]), "a", 9)

    def test_held_back_by_the_longest_less_urgent_one(self):
        bus = Bus([message("a", 1, most=3), message("b", 2, most=9), message("c", 3, most=6), message("d", 4, most=1)])
        self.assertEqual(bounds(bus), {"a": 8 + 3, "b": 5 + 3 + 9, "c": 0 + 12 + 6, "d": 18 + 1})

    def test_a_more_urgent_one_released_just_at_the_begin_goes_ahead(self):
        # b could begin at 3, 6 or 9, were there not another a at each of these hours.
        for gap, told in [(3, None), (4, 3 + 2), (5, 5)]:
            bus = Bus([message("a", 1, gap=gap, most=3), message("b", 2, gap=100, most=2)])
            self.assertEqual(bus_bound(bus, "b"), told)
        bus = Bus([message("a", 1, gap=4, most=2), message("b", 2, most=3), message("c", 3, most=3)])
        # a and b are held back for 2; a again at 4, but not at 8, as b began at 6.
        self.assertEqual(bus_bound(bus, "b"), 6 + 3)

    def test_waits(self):
        bus = Bus([message("a", 1, gap=20, most=4, wait=18), message("b", 2, gap=60, most=5, wait=6)])
        self.assertEqual(bounds(bus), {"a": None, "b": 6 + 8 + 5})
        bus = Bus([message("a", 1, gap=20, most=4, wait=15), message("b", 2, gap=60, most=5, wait=6)])
        self.assertEqual(bounds(bus), {"a": None, "b": 6 + 4 + 5})
        bus = Bus([message("a", 1, gap=20, most=4, wait=12), message("b", 2, gap=60, most=5, wait=6)])
        self.assertEqual(bounds(bus), {"a": 12 + 4 + 4, "b": 6 + 4 + 5})

    def test_waits_above_gaps(self):
        for wait, ahead in [(0, 1), (9, 2), (19, 3), (43, 6)]:
            bus = Bus([message("a", 1, gap=10, most=2, wait=wait), message("b", 2, gap=90, most=5)])
            begin = bus_bound(bus, "b") - 5
            self.assertEqual(begin, 2 * ((begin + wait) // 10 + 1))
            self.assertGreaterEqual(begin, 2 * ahead)
        bus = Bus([message("a", 1, gap=10, most=2, wait=GREAT), message("b", 2, gap=90, most=5)])
        self.assertEqual(bounds(bus), {"a": None, "b": None})

    def test_a_later_one_of_the_stretch_may_be_the_latest(self):
        # The first c is sent by 60; the second one, of the same stretch, arrives at 70 and is sent by 140.
        bus = Bus([message("a", 1, gap=50, most=20), message("b", 2, gap=70, most=20), message("c", 3, gap=70, most=20)])
        self.assertEqual(bounds(bus), {"a": 39, "b": 59, "c": 70})
        bus = Bus([message("a", 1, gap=25, most=10), message("b", 2, gap=35, most=10), message("c", 3, gap=35, most=10)])
        self.assertEqual(bounds(bus), {"a": 19, "b": 29, "c": 35})
        told = 0
        chance = random.Random(26)
        for _ in range(1500):
            rows = [message(name, place, gap=chance.randint(9, 20), most=chance.randint(3, 5))
                    for place, name in enumerate("abc", 1)]
            number = bus_bound(Bus(rows), "c")
            self.assertEqual(number, plain_bus_bound(rows, rows[2], None))
            told += number not in (None, plain_first(rows, rows[2]))
        self.assertGreater(told, 5)

    def test_spoils(self):
        bus = Bus([message("a", 1, most=4), message("b", 2, most=7), message("c", 3, most=5)])
        self.assertEqual(bounds(bus), {"a": 6 + 4, "b": 4 + 4 + 7, "c": 11 + 5})
        # Each costs 4 for a, else 7.
        self.assertEqual(bounds(bus, apart=100), {"a": 10 + 4, "b": 15 + 7, "c": 16 + 7})
        self.assertEqual(bounds(bus, apart=14), {"a": 10 + 4, "b": 15 + 21, "c": 16 + 21})
        self.assertEqual(bounds(bus, apart=15), {"a": 10 + 4, "b": 15 + 14, "c": 16 + 14})
        self.assertEqual(bounds(bus, apart=13), {"a": 10 + 8, "b": 15 + 21, "c": 16 + 21})
        self.assertEqual(bounds(bus, apart=8)["a"], 10 + 4 * 3)

    def test_spoils_one_more_apart_than_the_greatest_most(self):
        bus = Bus([message("a", 1, gap=100, most=3), message("b", 2, gap=100, most=8)])
        self.assertEqual(bounds(bus, apart=9), {"a": 7 + 3 + 3 * 2, "b": 11 + 8 * 11})
        bus = Bus([message("a", 1, gap=GREAT, most=10 ** 5), message("b", 2, gap=GREAT, most=10 ** 5)])
        apart = 10 ** 5 + 1
        first = 2 * 10 ** 5
        self.assertEqual(bus_bound(bus, "b", apart=apart), first + 10 ** 5 * first)

    def test_spoils_no_further_apart_than_what_is_sent(self):
        for apart in [1, 4, 5]:
            self.assertIsNone(bus_bound(Bus([message("a", 1, most=5)]), "a", apart=apart))

    def test_a_cost_of_those_at_least_as_urgent(self):
        rows = [message("a", 1, most=2), message("b", 2, most=9)]
        self.assertEqual(bus_bound(Bus(rows), "a", apart=1000), 8 + 2 + 2)
        self.assertEqual(bus_bound(Bus(rows), "b", apart=1000), 11 + 9)
        rows = [message("a", 1, most=9), message("b", 2, most=2)]
        self.assertEqual(bus_bound(Bus(rows), "a", apart=1000), 1 + 9 + 9)
        self.assertEqual(bus_bound(Bus(rows), "b", apart=1000), 11 + 9)

    def test_just_at_the_due_and_one_beyond(self):
        for apart, told in [(None, 16), (100, 23), (15, 30), (14, 37)]:
            for due in [1, told - 1, told, told + 1, 100]:
                bus = Bus([message("a", 1, most=4), message("b", 2, most=7), message("c", 3, most=5, due=due)])
                self.assertEqual(bus_bound(bus, "c", apart=apart), told if told <= due else None)

    def test_a_stretch_that_comes_to_a_hundred_gaps(self):
        # With 101 the stretch of b is 50200, just a hundred times 502; with one more it is beyond.
        for most, told in [(100, 449), (101, 500), (102, None)]:
            rows = [message("a", 1, gap=100, most=50), message("b", 2, gap=502, most=250), message("c", 3, gap=502, most=most)]
            self.assertEqual(plain_bus_bound(rows, rows[1], None), told)
            self.assertEqual(bus_bound(Bus(rows), "b"), told)
        # A less urgent one's gap may be the greatest.
        rows[2] = message("c", 3, gap=633, most=102)
        self.assertEqual(bus_bound(Bus(rows), "b"), 501)
        rows[2] = message("c", 3, gap=632, most=102)
        self.assertIsNone(bus_bound(Bus(rows), "b"))

    def test_a_stretch_without_end(self):
        # Each b would begin within 5 ticks, but the bus is never free of both.
        rows = [message("a", 1, gap=2, most=1), message("b", 2, gap=10, most=5), message("c", 3, gap=100, most=3)]
        self.assertIsNone(bus_bound(Bus(rows), "b"))
        rows[2] = message("c", 3, gap=100, most=1)
        self.assertEqual(bus_bound(Bus(rows), "b"), plain_bus_bound(rows[:2], rows[1], None))
        self.assertIsNotNone(bus_bound(Bus(rows), "b"))

    def test_great_numbers(self):
        tenth = GREAT // 10
        bus = Bus([message("a", 1, gap=tenth, most=tenth // 4, wait=tenth // 4), message("b", 2, gap=GREAT, most=tenth),
                   message("c", 3, gap=GREAT, most=tenth // 10, wait=3)])
        told = bounds(bus)
        self.assertIsNone(told["a"])
        begin = told["b"] - tenth
        self.assertEqual(begin, tenth // 10 - 1 + tenth // 4 * ((begin + tenth // 4) // tenth + 1))
        bus = Bus([message("a", 1, gap=GREAT, most=7)])
        self.assertEqual(bus_bound(bus, "a", apart=GREAT), 14)
        self.assertEqual(bus_bound(bus, "a", apart=8), 7 + 7 * 7)
        bus = Bus([message("a", 1, gap=GREAT, most=GREAT // 100)])
        self.assertEqual(bus_bound(bus, "a", apart=GREAT // 100 + 1), None)

    def test_against_a_going_up_from_below(self):
        chance = random.Random(27)
        told = {None: 0, 1: 0}
        for _ in range(250):
            bus = random_bus(chance, gaps=chance.choice([(4, 12), (8, 30)]), most=4)
            rows = bus.messages()
            apart = chance.choice([None, None, 5, 9, 30])
            if apart is not None:
                apart = max(apart, 1 + max(each.most for each in rows))
            for each in rows:
                number = plain_bus_bound(rows, each, apart)
                told[number and 1] += 1
                self.assertEqual(bus_bound(bus, each.name, apart=apart), number)
        self.assertGreater(min(told.values()), 100)


def plain_first(rows, message):
    """What the bound were if the first of the stretch alone counted."""
    held = max([0] + [other.most - 1 for other in rows if other.rank > message.rank])
    begin = 0
    while begin <= message.due:
        total = held + sum(other.most * ((begin + other.wait) // other.gap + 1) for other in rows if other.rank < message.rank)
        if total == begin:
            return message.wait + begin + message.most
        begin += 1
    return None


if __name__ == "__main__":
    unittest.main()
