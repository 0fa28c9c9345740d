"""[44] and what it needs of [22]: records."""

import random
import unittest

from plain import PlainRun, random_plan, random_wishes
from promptworks.errors import BadWork, NoTask, Unread
from promptworks.plans import Plan
from promptworks.records import read_record, replay, show_record
from promptworks.tasks import Task
from promptworks.texts import show_plan, show_trace, show_wishes

GREAT = 10 ** 12
PLAN = ["task a rank 1 gap 5 most 2 due 5 wait 0", "task b rank 2 gap 20 most 6 due 20 wait 0"]
WISHES = ["0 b 7", "1 a 2", "3 a 1"]
TRACE = ["0-1 b 0", "1-3 a 0", "3-6 b 0", "6-7 a 1", "7-9 b 0"]


def pair():
    return Plan([Task("a", rank=1, gap=5, most=2), Task("b", rank=2, gap=20, most=6)])


def text_of(plan=PLAN, wishes=WISHES, run="run 10 shut shut", trace=TRACE):
    return "\n".join(list(plan) + ["wishes"] + list(wishes) + [run] + list(trace))


class TestWritten(unittest.TestCase):
    def test_a_whole_run(self):
        wishes = [(3, "a", 1), (0, "b", 7), (1, "a", 2)]
        self.assertEqual(show_record(pair(), wishes, 10), text_of())
        self.assertEqual(show_record(plan=pair(), wishes=tuple(wishes), hour=10, gate=True, guard=True), text_of())
        self.assertEqual(wishes, [(3, "a", 1), (0, "b", 7), (1, "a", 2)])

    def test_gate_and_guard(self):
        wishes = [(0, "b", 7), (1, "a", 2), (3, "a", 1)]
        for gate, guard, run, trace in [
                (False, True, "run 10 open shut", ["0-1 b 0", "1-3 a 0", "3-4 a 1", "4-9 b 0"]),
                (True, False, "run 10 shut open", ["0-1 b 0", "1-3 a 0", "3-6 b 0", "6-7 a 1", "7-10 b 0"]),
                (False, False, "run 10 open open", ["0-1 b 0", "1-3 a 0", "3-4 a 1", "4-10 b 0"])]:
            self.assertEqual(show_record(pair(), wishes, 10, gate=gate, guard=guard), text_of(run=run, trace=trace))
        with self.assertRaises(TypeError):
            show_record(pair(), wishes, 10, True)

    def test_wishes_for_hours_below_it_alone(self):
        wishes = [(9, "a", 1), (10, "a", 1), (GREAT, "b", 1), (0, "b", 7), (1, "a", 2), (3, "a", 1)]
        # That for 9 is told: it is let in, and held by the gate.
        self.assertEqual(show_record(pair(), wishes, 10), text_of(wishes=WISHES + ["9 a 1"]))

    def test_an_hour_of_0(self):
        self.assertEqual(show_record(pair(), [(0, "a", 1)], 0), "\n".join(PLAN + ["wishes", "run 0 shut shut"]))
        self.assertEqual(show_record(Plan(), [], 0), "wishes\nrun 0 shut shut")
        self.assertEqual(show_record(Plan(), [], GREAT, gate=False), f"wishes\nrun {GREAT} open shut")

    def test_what_is_still_going(self):
        self.assertEqual(show_record(pair(), [(0, "b", 6)], 4), "\n".join(PLAN + ["wishes", "0 b 6", "run 4 shut shut", "0-4 b 0"]))

    def test_refused_as_first_wrong_is(self):
        for wishes, error, fields in [([(0, "z", 0)], NoTask, {"name": "z"}), ([(99, "z", 1)], NoTask, {"name": "z"}),
                                      ([(99, "a", 0), (0, "z", 1)], BadWork, {"work": 0}),
                                      ([(0, "a", 1), (99, "z", 1), (0, "a", 0)], NoTask, {"name": "z"})]:
            with self.assertRaises(error) as caught:
                show_record(pair(), wishes, 10)
            self.assertEqual(vars(caught.exception), fields)


class TestRead(unittest.TestCase):
    def unread(self, text, row):
        for read in [read_record, replay]:
            with self.assertRaises(Unread, msg=text) as caught:
                read(text)
            self.assertEqual(vars(caught.exception), {"row": row})

    def test_what_it_writes(self):
        plan, wishes, hour, gate, guard, rows = read_record(text=text_of(plan=PLAN[::-1], wishes=WISHES[::-1], run="run 7 open shut"))
        self.assertEqual(plan.tasks(), pair().tasks())
        self.assertEqual((wishes, hour, gate, guard), ([(0, "b", 7), (1, "a", 2), (3, "a", 1)], 7, False, True))
        self.assertEqual(rows, [(0, 1, "b", 0), (1, 3, "a", 0), (3, 6, "b", 0), (6, 7, "a", 1), (7, 9, "b", 0)])
        self.assertEqual([type(thing) for thing in [wishes, rows, gate, guard]], [list, list, bool, bool])
        self.assertEqual(read_record(text_of(run="run 10 shut open"))[2:5], (10, True, False))
        self.assertEqual(read_record("wishes\nrun 0 open open")[1:], ([], 0, False, False, []))

    def test_wishes_for_whatever_hours(self):
        text = text_of(wishes=["99 a 1"] + WISHES + ["10 b 1", f"{GREAT} a {GREAT}"])
        self.assertEqual(read_record(text)[1], [(0, "b", 7), (1, "a", 2), (3, "a", 1), (10, "b", 1), (99, "a", 1), (GREAT, "a", GREAT)])
        self.assertIsNone(replay(text))

    def test_tasks_called_like_the_rows(self):
        rows = [f"task {name} rank {rank} gap 9 most 2 due 9 wait 0" for rank, name in enumerate(["run", "task", "wishes"], 1)]
        plan = Plan([Task(name, rank=rank, gap=9, most=2) for rank, name in enumerate(["run", "task", "wishes"], 1)])
        wishes = [(0, "run", 1), (0, "task", 2), (0, "wishes", 9)]
        text = show_record(plan, wishes, 9)
        self.assertEqual(text, "\n".join(rows + ["wishes", "0 run 1", "0 task 2", "0 wishes 9", "run 9 shut shut",
                                                 "0-1 run 0", "1-3 task 0", "3-5 wishes 0"]))
        self.assertEqual(read_record(text)[1], wishes)
        self.assertIsNone(replay(text))

    def test_rows_that_cant_stand_where_they_are(self):
        for row in ["", "x", "run 10 shut shut", "0 a 1", "0-1 a 0", PLAN[0], "wishes ", "Wishes",
                    "task c rank 2 gap 5 most 2 due 5 wait 0", "task c rank 3 gap 5 most 2 due 6 wait 0"]:
            self.unread(text_of(plan=PLAN + [row]), row)
        for row in ["", "x", "wishes", "0 z 1", "0 a 0", "0-1 a 0", PLAN[0], " run 10 shut shut", "runs 10 shut shut", "run\t10",
                    "0  a 1", "Run 10 shut shut"]:
            self.unread(text_of(wishes=WISHES + [row]), row)
            self.unread(text_of(wishes=[row, "x"]), row)
        for row in ["run", "run ", "run 10", "run 10 shut", "run 10 shut shut ", "run 10 shut shut shut", "run x shut shut",
                    "run 010 shut shut", "run -1 shut shut", "run 10 Shut shut", "run 10 shut ajar", "run  10 shut shut",
                    "run 10 True True", "run 10 open", "run 10 open ", "run 1 a"]:
            self.unread(text_of(run=row), row)
        for row in ["", "x", "wishes", "run 10 shut shut", "0 a 1", "9-9 a 0", "8-10 a 0", "12 a 0", PLAN[0], "9-10 A 0"]:
            self.unread(text_of(trace=TRACE + [row]), row)

    def test_the_first_such_row(self):
        self.unread(text_of(plan=["x"], wishes=["y"], run="run z", trace=["q"]), "x")
        self.unread(text_of(wishes=["y"], run="run z", trace=["q"]), "y")
        self.unread(text_of(run="run z", trace=["q"]), "run z")
        self.unread(text_of(trace=["q", "p"]), "q")
        # A wish is of a task of the plan, wherever another wrong row stands behind it.
        self.unread(text_of(wishes=["0 z 1", "x"]), "0 z 1")
        self.unread(text_of(wishes=["x", "0 z 1"]), "x")

    def test_a_part_that_lacks(self):
        self.unread("", "wishes")
        self.unread("\n".join(PLAN), "wishes")
        self.unread(PLAN[0] + "\n", "")
        self.unread("\n".join(PLAN + WISHES), WISHES[0])
        self.unread("\n".join(PLAN + ["run 10 shut shut"] + TRACE), "run 10 shut shut")
        self.unread("\n".join(PLAN + ["run 10 shut shut", "wishes"]), "run 10 shut shut")
        self.unread("wishes", "run")
        self.unread("wishes\n", "")
        self.unread("\n".join(PLAN + ["wishes"]), "run")
        self.unread("\n".join(PLAN + ["wishes"] + WISHES), "run")
        self.unread("\n".join(PLAN + ["wishes"] + WISHES + TRACE), TRACE[0])
        self.unread("\n".join(["wishes"] + WISHES), WISHES[0])
        self.unread("x\nwishes", "x")

    def test_told_things_are_new(self):
        wishes, rows = read_record(text_of())[1::4]
        wishes.clear()
        rows.clear()
        self.assertEqual([len(told) for told in read_record(text_of())[1::4]], [3, 5])


class TestReplayed(unittest.TestCase):
    def test_the_first_wrong_row(self):
        self.assertIsNone(replay(text=text_of()))
        for place in range(len(TRACE)):
            self.assertEqual(replay(text_of(trace=TRACE[:place])), place)
            self.assertEqual(replay(text_of(trace=TRACE[:place] + TRACE[place + 1:])), place)
            wrong = TRACE[place][:-1] + "5"
            self.assertEqual(replay(text_of(trace=TRACE[:place] + [wrong] + TRACE[place + 1:])), place)
        self.assertEqual(replay(text_of(trace=TRACE + ["9-10 b 0"])), 5)
        self.assertEqual(replay(text_of(trace=TRACE + ["12-13 nobody 7"])), 5)
        self.assertEqual(replay(text_of(run="run 8 shut shut")), 4)
        self.assertEqual(replay(text_of(run="run 10 open shut")), 2)
        self.assertEqual(replay(text_of(run="run 10 shut open")), 4)
        self.assertEqual(replay(text_of(wishes=WISHES[:2])), 2)

    def test_rows_as_long_as_can_be(self):
        self.assertEqual(replay(text_of(trace=["0-1 b 0", "1-2 a 0", "2-3 a 0"] + TRACE[2:])), 1)

    def test_an_hour_of_0(self):
        self.assertIsNone(replay("wishes\nrun 0 shut shut"))
        self.assertIsNone(replay(text_of(run="run 0 shut shut", trace=[])))
        self.assertEqual(replay(text_of(run="run 0 shut shut")), 0)

    def test_great_numbers(self):
        plan = Plan([Task("a", rank=1, gap=GREAT, most=GREAT // 2, wait=GREAT)])
        text = show_record(plan, [(5, "a", GREAT), (6, "a", GREAT)], 2 * GREAT)
        self.assertIsNone(replay(text))
        self.assertEqual(replay(text.replace("5-", "6-")), 0)

    def test_records_of_runs(self):
        chance = random.Random(44)
        for _ in range(200):
            plan = random_plan(chance, most=9)
            wishes = random_wishes(chance, plan)
            gate, guard = chance.choice([True, False]), chance.choice([True, False])
            hour = chance.choice([0, chance.randint(0, 60), 100])
            text = show_record(plan, wishes, hour, gate=gate, guard=guard)
            run = PlainRun(plan.tasks(), wishes, hour, gate, guard)
            below = [row for row in wishes if row[0] < hour]
            words = ["open", "shut"]
            parts = [show_plan(plan), "wishes", show_wishes(below), f"run {hour} {words[gate]} {words[guard]}", show_trace(run.trace())]
            self.assertEqual(text, "\n".join(part for part in parts if part))
            read, *told = read_record(text)
            self.assertEqual(read.tasks(), plan.tasks())
            self.assertEqual(told, [sorted(below), hour, gate, guard, run.trace()])
            self.assertEqual(show_record(read, told[0], told[1], gate=told[2], guard=told[3]), text)
            self.assertIsNone(replay(text))
            rows = text.split("\n")
            if run.trace():
                place = chance.randrange(len(run.trace()))
                begin = len(rows) - len(run.trace())
                self.assertEqual(replay("\n".join(rows[:begin + place] + rows[begin + place + 1:])), place)


if __name__ == "__main__":
    unittest.main()
