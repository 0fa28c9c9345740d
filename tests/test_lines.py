"""[27] and of [4] what it says of messages: lines, and of [2] and [3] what holds of them."""

import random
import unittest

from plain import PlainLine, random_bus, random_spoils
from promptworks.buses import Bus, Message, bus_bound
from promptworks.errors import NoTask, Past
from promptworks.lines import Line

GREAT = 10 ** 12


def two(wait=0):
    return Bus([Message("m", rank=1, gap=50, most=4, wait=wait), Message("n", rank=2, gap=50, most=7)])


def ran(bus, wishes, spoils, hour, **doors):
    line = Line(bus, **doors)
    for wished, name in wishes:
        line.wish(wished, name)
    for tick in spoils:
        line.spoil(tick)
    line.run(hour)
    return line


class TestLine(unittest.TestCase):
    def test_never_broken_off(self):
        line = ran(two(), [(0, "n"), (1, "m")], [], 60)
        self.assertEqual(line.sendings(), [(0, 7, "n", 0, "sent"), (7, 11, "m", 0, "sent")])
        self.assertEqual(line.jobs(), [("m", 0, 1, 1, 4, 4, 11), ("n", 0, 0, 0, 7, 7, 7)])
        self.assertEqual(line.now(), 60)

    def test_the_most_urgent_begins(self):
        for hour, begin in [(0, 0), (1, 7), (6, 7), (7, 7), (8, 8), (20, 20)]:
            line = ran(two(), [(0, "n"), (hour, "m")], [], 60)
            self.assertIn((begin, begin + 4, "m", 0, "sent"), line.sendings())
        # n is released while m is sent, another m just when it is at its end: that one begins.
        bus = Bus([Message("m", rank=1, gap=4, most=4), Message("n", rank=2, gap=50, most=7)])
        line = ran(bus, [(0, "m"), (1, "n"), (4, "m")], [], 60)
        self.assertEqual([row[:3] for row in line.sendings()], [(0, 4, "m"), (4, 8, "m"), (8, 15, "n")])

    def test_of_one_message_the_earlier(self):
        bus = Bus([Message("m", rank=1, gap=5, most=3, wait=20)])
        line = ran(bus, [(2, "m"), (0, "m"), (0, "m")], [], 60)
        self.assertEqual([row[3] for row in line.sendings()], [0, 1, 2])
        self.assertEqual([row[1:4] for row in line.jobs()], [(0, -20, 0), (1, -15, 0), (2, -10, 2)])

    def test_wishes_of_one_hour(self):
        line = ran(two(), [(3, "n"), (3, "m"), (3, "m")], [], 90)
        self.assertEqual(line.sendings(), [(3, 7, "m", 0, "sent"), (7, 14, "n", 0, "sent"), (53, 57, "m", 1, "sent")])

    def test_the_gate(self):
        wishes = [(0, "m"), (2, "m"), (30, "m")]
        for doors in [{}, {"gate": True}]:
            line = ran(two(wait=5), wishes, [], 200, **doors)
            self.assertEqual(line.jobs(), [("m", 0, -5, 0, 4, 4, 4), ("m", 1, 45, 45, 4, 4, 49),
                                           ("m", 2, 95, 95, 4, 4, 99)])
        line = ran(two(wait=5), wishes, [], 200, gate=False)
        self.assertEqual(line.jobs(), [("m", 0, -5, 0, 4, 4, 4), ("m", 1, 45, 2, 4, 4, 8), ("m", 2, 95, 30, 4, 4, 34)])
        with self.assertRaises(TypeError):
            Line(two(), True)

    def test_a_spoil_ends_what_is_sent_with_its_tick(self):
        told = {9: [(10, 14, "m", 0, "sent")],
                10: [(10, 11, "m", 0, "spoiled"), (11, 15, "m", 0, "sent")],
                12: [(10, 13, "m", 0, "spoiled"), (13, 17, "m", 0, "sent")],
                13: [(10, 14, "m", 0, "spoiled"), (14, 18, "m", 0, "sent")],
                14: [(10, 14, "m", 0, "sent")]}
        for tick, rows in told.items():
            line = ran(two(), [(10, "m")], [tick], 60)
            self.assertEqual(line.sendings(), rows, tick)
            self.assertEqual(line.jobs(), [("m", 0, 10, 10, 4, 4, rows[-1][1])])

    def test_a_spoil_told_twice(self):
        for spoils in [[11], [11, 11], [11, 11, 11]]:
            line = ran(two(), [(10, "m")], spoils, 60)
            self.assertEqual(line.sendings(), [(10, 12, "m", 0, "spoiled"), (12, 16, "m", 0, "sent")])

    def test_spoils_one_behind_another(self):
        line = ran(two(), [(10, "m")], [12, 11, 10, 30], 60)
        self.assertEqual(line.sendings(), [(10, 11, "m", 0, "spoiled"), (11, 12, "m", 0, "spoiled"),
                                           (12, 13, "m", 0, "spoiled"), (13, 17, "m", 0, "sent")])

    def test_behind_a_spoil_the_most_urgent_begins(self):
        line = ran(two(), [(0, "n"), (2, "m")], [4], 60)
        self.assertEqual(line.sendings(), [(0, 5, "n", 0, "spoiled"), (5, 9, "m", 0, "sent"), (9, 16, "n", 0, "sent")])
        line = ran(two(), [(0, "n"), (5, "m")], [4], 60)
        self.assertEqual(line.sendings(), [(0, 5, "n", 0, "spoiled"), (5, 9, "m", 0, "sent"), (9, 16, "n", 0, "sent")])
        line = ran(two(), [(0, "n"), (6, "m")], [4], 60)
        self.assertEqual(line.sendings(), [(0, 5, "n", 0, "spoiled"), (5, 12, "n", 0, "sent"), (12, 16, "m", 0, "sent")])

    def test_what_is_still_going(self):
        line = Line(two())
        line.wish(3, "m")
        told = {0: [], 3: [], 4: [(3, 4, "m", 0, "going")], 6: [(3, 6, "m", 0, "going")], 7: [(3, 7, "m", 0, "sent")],
                8: [(3, 7, "m", 0, "sent")]}
        for hour, rows in told.items():
            line.run(hour)
            self.assertEqual((line.now(), line.sendings()), (hour, rows))
            self.assertEqual(line.jobs(), [("m", 0, 3, 3, 4, 4 if hour > 6 else 0, 7 if hour > 6 else None)] * (hour > 3))

    def test_nothing_begins_at_now(self):
        line = ran(two(), [(0, "m"), (0, "n")], [], 4)
        self.assertEqual(line.sendings(), [(0, 4, "m", 0, "sent")])
        line.run(5)
        self.assertEqual(line.sendings(), [(0, 4, "m", 0, "sent"), (4, 5, "n", 0, "going")])
        # A wish for now of a more urgent one still goes ahead.
        line = ran(two(), [(0, "n")], [2], 3)
        self.assertEqual(line.sendings(), [(0, 3, "n", 0, "spoiled")])
        line.wish(3, "m")
        line.run(30)
        self.assertEqual([row[2] for row in line.sendings()], ["n", "m", "n"])

    def test_a_spoil_told_while_it_is_sent(self):
        line = ran(two(), [(0, "n")], [], 3)
        line.spoil(3)
        line.run(4)
        self.assertEqual(line.sendings(), [(0, 4, "n", 0, "spoiled")])
        line.spoil(tick=4)
        line.run(hour=40)
        self.assertEqual(line.sendings(), [(0, 4, "n", 0, "spoiled"), (4, 5, "n", 0, "spoiled"), (5, 12, "n", 0, "sent")])

    def test_refused(self):
        line = ran(two(), [(0, "n")], [], 9)
        for ask, error, fields in [
                (lambda: line.wish(8, "m"), Past, {"hour": 8}), (lambda: line.wish(0, "z"), Past, {"hour": 0}),
                (lambda: line.wish(-1, "z"), Past, {"hour": -1}), (lambda: line.wish(9, "z"), NoTask, {"name": "z"}),
                (lambda: line.wish(hour=20, message=""), NoTask, {"name": ""}),
                (lambda: line.spoil(8), Past, {"hour": 8}), (lambda: line.spoil(-1), Past, {"hour": -1}),
                (lambda: line.run(8), Past, {"hour": 8}), (lambda: line.run(-3), Past, {"hour": -3})]:
            with self.assertRaises(error) as caught:
                ask()
            self.assertEqual(vars(caught.exception), fields)
            self.assertEqual((line.now(), line.sendings()), (9, [(0, 7, "n", 0, "sent")]))
        line.wish(9, "m")
        line.spoil(9)
        line.run(30)
        self.assertEqual(line.sendings(), [(0, 7, "n", 0, "sent"), (9, 10, "m", 0, "spoiled"), (10, 14, "m", 0, "sent")])

    def test_hour_0(self):
        line = Line(two())
        self.assertEqual((line.now(), line.jobs(), line.sendings()), (0, [], []))
        line.run(0)
        line.spoil(0)
        line.wish(0, "m")
        self.assertEqual((line.jobs(), line.sendings()), ([], []))
        line.run(1)
        self.assertEqual(line.sendings(), [(0, 1, "m", 0, "spoiled")])
        self.assertEqual(line.jobs(), [("m", 0, 0, 0, 4, 0, None)])

    def test_a_bus_of_none(self):
        line = Line(Bus())
        with self.assertRaises(NoTask):
            line.wish(0, "m")
        line.spoil(5)
        line.run(GREAT)
        self.assertEqual((line.now(), line.jobs(), line.sendings()), (GREAT, [], []))

    def test_told_lists_are_new(self):
        line = ran(two(), [(0, "n"), (3, "m")], [], 9)
        told = (line.jobs(), line.sendings())
        line.jobs().clear()
        line.sendings().clear()
        self.assertEqual((line.jobs(), line.sendings()), told)
        line.run(30)
        self.assertEqual(told[1], [(0, 7, "n", 0, "sent"), (7, 9, "m", 0, "going")])
        self.assertEqual(told[0][0], ("m", 0, 3, 3, 4, 0, None))

    def test_great_numbers(self):
        most = GREAT // 4
        bus = Bus([Message("m", rank=1, gap=GREAT, most=most), Message("n", rank=2, gap=GREAT, most=most, wait=GREAT)])
        line = ran(bus, [(0, "n"), (5, "m"), (GREAT, "n")], [most + 1, GREAT, 3 * GREAT], GREAT + 2)
        self.assertEqual(line.sendings(), [(0, most, "n", 0, "sent"), (most, most + 2, "m", 0, "spoiled"),
                                           (most + 2, 2 * most + 2, "m", 0, "sent"),
                                           (GREAT, GREAT + 1, "n", 1, "spoiled"), (GREAT + 1, GREAT + 2, "n", 1, "going")])
        self.assertEqual(line.jobs()[2], ("n", 1, 0, GREAT, most, 0, None))


class TestAgainstThePlainMachine(unittest.TestCase):
    def wishes(self, chance, bus, many=14, hours=60):
        return [(chance.randrange(hours), chance.choice(bus.messages()).name) for _ in range(chance.randint(0, many))]

    def test_at_each_hour(self):
        chance = random.Random(28)
        for _ in range(60):
            bus = random_bus(chance)
            wishes = self.wishes(chance, bus)
            spoils = [chance.randrange(80) for _ in range(chance.choice([0, 3, 12]))]
            gate = chance.choice([True, False])
            line = ran(bus, wishes, spoils, 0, gate=gate)
            for hour in range(0, 90, chance.choice([1, 1, 3])):
                line.run(hour)
                plain = PlainLine(bus.messages(), wishes, spoils, hour, gate)
                self.assertEqual((line.sendings(), line.jobs()), (plain.rows, plain.told()))

    def test_run_at_once(self):
        chance = random.Random(29)
        for _ in range(300):
            bus = random_bus(chance, many=6, gaps=(3, 30), most=9)
            wishes = self.wishes(chance, bus, many=24)
            spoils = [chance.randrange(150) for _ in range(chance.choice([0, 3, 12]))]
            gate = chance.choice([True, False])
            hour = chance.randrange(160)
            line = ran(bus, wishes, spoils, hour, gate=gate)
            plain = PlainLine(bus.messages(), wishes, spoils, hour, gate)
            self.assertEqual((line.sendings(), line.jobs()), (plain.rows, plain.told()))

    def test_whatever_the_order_and_the_cuts(self):
        chance = random.Random(30)
        for _ in range(150):
            bus = random_bus(chance)
            told = [("wish",) + row for row in self.wishes(chance, bus)]
            told += [("spoil", chance.randrange(80)) for _ in range(chance.choice([0, 3, 12]))]
            whole = ran(bus, [row[1:] for row in told if row[0] == "wish"], [row[1] for row in told if len(row) == 2], 150)
            line = Line(bus)
            chance.shuffle(told)
            for hour in sorted(chance.randrange(90) for _ in range(chance.randint(0, 9))) + [150]:
                ripe = [row[1] < hour or chance.random() < 0.3 for row in told]
                for row in [row for row, is_ripe in zip(told, ripe) if is_ripe]:
                    getattr(line, row[0])(*row[1:])
                told = [row for row, is_ripe in zip(told, ripe) if not is_ripe]
                line.run(hour)
            self.assertEqual((line.sendings(), line.jobs()), (whole.sendings(), whole.jobs()))


class TestBounds(unittest.TestCase):
    def test_each_is_sent_by_its_bound(self):
        chance = random.Random(31)
        seen = 0
        just = 0
        for _ in range(900):
            bus = random_bus(chance, many=3, gaps=(8, 30), most=4)
            mosts = max(each.most for each in bus.messages())
            apart = chance.choice([None, mosts + 1, mosts + 6, 30])
            told = {each.name: bus_bound(bus, each.name, apart=apart) for each in bus.messages()}
            wishes = []
            for each in bus.messages():
                arrival = chance.randrange(12)
                for _ in range(6):
                    wishes.append((arrival + chance.choice([0, each.wait]), each.name))
                    arrival += each.gap + chance.choice([0, 0, 0, 1])
            line = ran(bus, wishes, random_spoils(chance, apart, 400), 2000)
            for name, number, arrival, release, work, done, end in line.jobs():
                if told[name] is not None:
                    seen += 1
                    self.assertLessEqual(end, arrival + told[name])
                    just += end == arrival + told[name]
        self.assertGreater(seen, 1000)
        self.assertGreater(just, 50)


if __name__ == "__main__":
    unittest.main()
