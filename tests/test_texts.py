"""[42]: plans, buses, wishes and traces as texts."""

import random
import unittest

from plain import random_bus, random_plan, random_wishes
from promptworks.buses import Bus, Message
from promptworks.errors import Unread
from promptworks.plans import Plan
from promptworks.tasks import Task
from promptworks.texts import (read_bus, read_plan, read_trace, read_wishes, show_bus, show_plan, show_trace,
                               show_wishes)
from promptworks.works import Works

GREAT = 10 ** 12
PUMP = "task pump rank 3 gap 10 most 6 due 8 wait 2"
PLAIN = "task belt rank 1 gap 20 most 4 due 20 wait 0"


class Case(unittest.TestCase):
    def unread(self, read, text, row):
        with self.assertRaises(Unread, msg=text) as caught:
            read(text)
        self.assertEqual(vars(caught.exception), {"row": row})

    def lone(self, read, rows):
        """Each of the rows can't be one, alone and behind another text's right rows."""
        for row in rows:
            if row:
                self.unread(read, row, row)
            self.unread(read, row + "\n", row)


class TestPlans(Case):
    def test_written(self):
        plan = Plan([Task("pump", rank=3, gap=10, most=6, due=8, wait=2,
                          sections=[(3, 2, "b"), (0, 2, "z"), (0, 3, "c"), (0, 2, "a")]),
                     Task("belt", rank=1, gap=20, most=4)])
        self.assertEqual(show_plan(plan), PLAIN + "\n" + PUMP + " section 0 3 c section 0 2 a section 0 2 z section 3 2 b")
        self.assertEqual(show_plan(plan=Plan()), "")

    def test_read(self):
        plan = read_plan(text=PUMP + " section 0 3 c section 0 2 a section 4 1 b\n" + PLAIN)
        self.assertEqual(plan.tasks(), [Task("belt", rank=1, gap=20, most=4),
                                        Task("pump", rank=3, gap=10, most=6, due=8, wait=2,
                                             sections=[(0, 3, "c"), (0, 2, "a"), (4, 1, "b")])])
        self.assertEqual(read_plan("").tasks(), [])
        self.assertEqual(type(plan), Plan)

    def test_read_and_written_again(self):
        chance = random.Random(42)
        for _ in range(200):
            plan = random_plan(chance, many=5, most=12, locks=("x", "y", "z", "section"))
            text = show_plan(plan)
            again = read_plan(text)
            self.assertEqual(again.tasks(), plan.tasks())
            self.assertEqual(show_plan(again), text)
            rows = text.split("\n")
            chance.shuffle(rows)
            self.assertEqual(read_plan("\n".join(rows)).tasks(), plan.tasks())

    def test_words_as_names(self):
        text = "\n".join([f"task {name} rank {rank} gap 9 most 5 due 9 wait 0 section 0 1 {name}"
                          for rank, name in enumerate(["task", "rank", "section", "wishes", "run", "message"], 1)])
        self.assertEqual(show_plan(read_plan(text)), text)
        self.assertEqual(read_plan(text).locks(), ["message", "rank", "run", "section", "task", "wishes"])

    def test_great_numbers(self):
        text = f"task a rank {GREAT} gap {GREAT} most {GREAT} due {GREAT} wait {GREAT} section 0 {GREAT - 1} x"
        self.assertEqual(show_plan(read_plan(text)), text)
        self.assertEqual(read_plan(text).task("a").wait, GREAT)

    def test_rows_that_cant_be_one(self):
        self.lone(read_plan, [
            "", " ", "task", "pump", PUMP + " ", " " + PUMP, PUMP.replace(" rank", "  rank"), PUMP.replace(" ", "\t"),
            PUMP + "\r", PUMP[:-2], PUMP[:-1], PUMP + " 0", PUMP.replace("task", "Task"), PUMP.replace("task", "message"),
            PUMP.replace("rank", "ranks"), PUMP.replace("gap", "rank"), PUMP.replace("most", "due"), PUMP.replace("due", "wait"),
            PUMP.replace("wait", "due"), PUMP.replace("pump", "Pump"), PUMP.replace("pump", "pump1"), PUMP.replace("pump", ""),
            PUMP.replace("pump", "abcdefghijklm"), PUMP.replace("rank 3", "rank 03"), PUMP.replace("rank 3", "rank 0"),
            PUMP.replace("rank 3", "rank +3"), PUMP.replace("rank 3", "rank -3"), PUMP.replace("rank 3", "rank 3.0"),
            PUMP.replace("rank 3", "rank 3_0"), PUMP.replace("rank 3", "rank \u0663"), PUMP.replace("rank 3", "rank \u00b3"),
            PUMP.replace("gap 10", "gap 0"), PUMP.replace("gap 10", "gap 010"), PUMP.replace("most 6", "most 0"),
            PUMP.replace("due 8", "due 0"), PUMP.replace("due 8", "due 11"), PUMP.replace("due 8", "due"),
            PUMP.replace("wait 2", "wait -2"), PUMP.replace("wait 2", "wait 00"), PUMP.replace("wait 2", "wait x"),
            PUMP.replace("wait 2", "wait ")])
        for due in [1, 9, 10]:
            read_plan(PUMP.replace("due 8", f"due {due}"))

    def test_sections_that_arent_as_told(self):
        for sections in [" section 0 1 x", " section 0 5 x", " section 4 1 x", " section 0 2 a section 2 3 a",
                         " section 0 5 a section 0 5 b", " section 0 5 a section 0 2 b section 1 1 c"]:
            self.assertEqual(show_plan(read_plan(PUMP + sections)), PUMP + sections)
        self.lone(read_plan, [PUMP + sections for sections in [
            " section", " section 0 1", " section 0 1 x ", " section 0 1 x y", " sections 0 1 x", " section 0 0 x",
            " section 0 6 x", " section 5 1 x", " section 1 5 x", " section 0 1 X", " section 0 1 ", " section 00 1 x",
            " section 0 01 x", " section -1 1 x", " section a 1 x", " section 0 3 a section 2 2 b", " section 0 3 a section 1 1 a",
            " section 0 1 a section 0 1 a", " section 2 1 a section 0 2 b", " section 0 2 a section 0 3 b",
            " section 0 2 b section 0 2 a", " section 0 1 x section", " 0 1 x", "section 0 1 x", " wait 0 1 x"]])

    def test_the_first_such_row(self):
        self.unread(read_plan, "\n".join([PUMP, "x", "y"]), "x")
        self.unread(read_plan, "\n" + PUMP, "")
        self.unread(read_plan, PUMP + "\n", "")
        self.unread(read_plan, PUMP + "\n\n" + PLAIN, "")
        self.unread(read_plan, "\n", "")

    def test_rows_that_make_a_plan_refused(self):
        twice = PLAIN.replace("belt", "pump")
        shared = PLAIN.replace("rank 1", "rank 3")
        self.unread(read_plan, "\n".join([PUMP, PLAIN, PUMP]), PUMP)
        self.unread(read_plan, "\n".join([PUMP, twice]), twice)
        self.unread(read_plan, "\n".join([twice, PUMP]), PUMP)
        self.unread(read_plan, "\n".join([PUMP, shared]), shared)
        self.unread(read_plan, "\n".join([shared, PLAIN.replace("belt", "log"), PUMP, "x"]), PUMP)
        self.unread(read_plan, "\n".join([PUMP, shared, "x", twice]), shared)
        self.unread(read_plan, "\n".join([PUMP, "x", shared]), "x")


class TestBuses(Case):
    ROW = "message stop rank 2 gap 50 most 4 due 40 wait 3"

    def test_written_and_read(self):
        bus = Bus([Message("stop", rank=2, gap=50, most=4, due=40, wait=3), Message("go", rank=1, gap=9, most=1)])
        text = "message go rank 1 gap 9 most 1 due 9 wait 0\n" + self.ROW
        self.assertEqual(show_bus(bus=bus), text)
        self.assertEqual(read_bus(text=text).messages(), bus.messages())
        self.assertEqual(read_bus("\n".join(text.split("\n")[::-1])).messages(), bus.messages())
        self.assertEqual((show_bus(Bus()), read_bus("").messages()), ("", []))

    def test_read_and_written_again(self):
        chance = random.Random(43)
        for _ in range(100):
            bus = random_bus(chance)
            text = show_bus(bus)
            self.assertEqual(read_bus(text).messages(), bus.messages())
            self.assertEqual(show_bus(read_bus(text)), text)

    def test_rows_that_cant_be_one(self):
        self.lone(read_bus, ["", "message", self.ROW + " ", self.ROW + " section 0 1 x", self.ROW.replace("message", "task"),
                             self.ROW.replace("due 40", "due 51"), self.ROW.replace("rank 2", "rank 02"),
                             self.ROW.replace("most 4", "most 0"), self.ROW.replace("stop", "STOP"), self.ROW[:-2]])
        other = self.ROW.replace("stop", "go")
        self.unread(read_bus, "\n".join([self.ROW, other]), other)
        self.unread(read_bus, "\n".join([self.ROW, self.ROW.replace("rank 2", "rank 1")]), self.ROW.replace("rank 2", "rank 1"))
        self.unread(read_bus, self.ROW + "\n", "")


class TestWishes(Case):
    def test_by_hours_tasks_and_works(self):
        wishes = [(10, "a", 1), (9, "b", 2), (9, "a", 12), (9, "a", 3), (9, "b", 1), (9, "b", 1), (0, "z", GREAT)]
        text = f"0 z {GREAT}\n9 a 3\n9 a 12\n9 b 1\n9 b 1\n9 b 2\n10 a 1"
        held = list(wishes)
        self.assertEqual(show_wishes(wishes=wishes), text)
        self.assertEqual(show_wishes(tuple(wishes)), text)
        self.assertEqual(wishes, held)
        self.assertEqual(read_wishes(text=text), sorted(wishes))
        self.assertEqual(read_wishes("\n".join(text.split("\n")[::-1])), sorted(wishes))
        self.assertEqual((show_wishes([]), read_wishes("")), ("", []))

    def test_read_and_written_again(self):
        chance = random.Random(44)
        for _ in range(100):
            wishes = random_wishes(chance, random_plan(chance))
            self.assertEqual(read_wishes(show_wishes(wishes)), sorted(wishes))

    def test_rows_that_cant_be_one(self):
        self.lone(read_wishes, ["", " ", "0 a", "0 a 1 ", " 0 a 1", "0  a 1", "0 a  1", "0 a 1 1", "0 a 0", "0 a 01", "00 a 1",
                                "-1 a 1", "0 a -1", "0 A 1", "0 abcdefghijklm 1", "0 a1 1", "a a 1", "0 0 1", "0 a a", "0 a 1.",
                                "0\ta\t1", "0 a \u0661", "wishes", "0-1 a 1", "+0 a 1", "0 a 1\r", "0 a", "0  1"])
        self.unread(read_wishes, "0 a 1\n", "")
        self.unread(read_wishes, "5 a 1\n4 a x\n3 a", "4 a x")


class TestTraces(Case):
    def test_written_and_read(self):
        rows = [(0, 3, "a", 0), (3, 4, "b", 0), (7, GREAT, "a", 12), (GREAT, GREAT + 1, "a", 12)]
        text = f"0-3 a 0\n3-4 b 0\n7-{GREAT} a 12\n{GREAT}-{GREAT + 1} a 12"
        self.assertEqual(show_trace(rows=rows), text)
        self.assertEqual(show_trace(tuple(rows)), text)
        self.assertEqual(read_trace(text=text), rows)
        self.assertEqual((show_trace([]), read_trace("")), ("", []))

    def test_read_and_written_again(self):
        chance = random.Random(45)
        for _ in range(100):
            plan = random_plan(chance)
            works = Works(plan)
            works.wishes(random_wishes(chance, plan))
            works.run(60)
            self.assertEqual(read_trace(show_trace(works.trace())), works.trace())

    def test_rows_that_touch_and_that_overlap(self):
        self.assertEqual(read_trace("0-3 a 0\n3-5 b 0"), [(0, 3, "a", 0), (3, 5, "b", 0)])
        self.assertEqual(read_trace("2-3 a 0\n3-5 a 0"), [(2, 3, "a", 0), (3, 5, "a", 0)])
        for row in ["2-5 b 0", "0-1 b 0", "0-3 a 0", "1-2 a 0"]:
            self.unread(read_trace, "0-3 a 0\n" + row, row)
        self.unread(read_trace, "5-6 a 0\n6-7 a 0\n0-5 a 0\n9-9 a 0", "0-5 a 0")

    def test_rows_that_cant_be_one(self):
        self.lone(read_trace, ["", "0-1", "0-1 a", "0-1 a 0 ", "0-1 a 0 0", "0-0 a 0", "2-1 a 0", "0 a 0", "0-1-2 a 0", "-1 a 0",
                               "0- a 0", "00-1 a 0", "0-01 a 0", "0-1 a 00", "0-1 a -1", "0-1 A 0", "0-1  a 0", "0 -1 a 0",
                               "a-b a 0", "0-1 a x", "0_1 a 0", "0-1 \u00e4 0", "0-1 a 0\r", "0--1 a 0"])
        self.unread(read_trace, "0-1 a 0\n", "")

    def test_hours_and_numbers_need_fit_no_plan(self):
        self.assertEqual(read_trace("5-9 nobody 77"), [(5, 9, "nobody", 77)])
        self.assertEqual(read_wishes("5 nobody 77"), [(5, "nobody", 77)])

    def test_told_lists_are_new(self):
        for read, text in [(read_trace, "5-9 a 7"), (read_wishes, "5 a 9")]:
            rows = read(text)
            rows.append(1)
            self.assertEqual(len(read(text)), 1)


if __name__ == "__main__":
    unittest.main()
