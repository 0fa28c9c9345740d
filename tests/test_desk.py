"""[43]: the desk."""

import random
import unittest

from plain import odd_things, random_plan, random_wishes
from promptworks.bounds import bound
from promptworks.desk import Desk
from promptworks.errors import BadWork, NoAsk, NoJob, NoLock, NoTask, NoWorks, Past, Shared, Twice
from promptworks.explained import blamed, parts
from promptworks.papers import paper
from promptworks.texts import show_plan, show_trace
from promptworks.works import Works

GREAT = 10 ** 12
TASKS = ["task a rank 1 gap 10 most 2 due 10 wait 3 section 0 1 x", "task b rank 2 gap 20 most 6 due 20 wait 0 section 1 3 x"]


def desk(*rows):
    told = Desk()
    for row in rows:
        assert told.say(row) == "ok", row
    return told


def at_work(*rows, works="works"):
    return desk(*TASKS, works, *rows)


class Case(unittest.TestCase):
    def refused(self, error, fields, told, row):
        with self.assertRaises(error, msg=row) as caught:
            told.say(row)
        self.assertEqual(vars(caught.exception), fields)

    def no_ask(self, told, rows):
        for row in rows:
            with self.assertRaises(NoAsk, msg=row) as caught:
                told.say(row)
            self.assertEqual(list(vars(caught.exception)), ["row"])
            self.assertIs(caught.exception.row, row)

    def says(self, told, rows):
        for row, answer in rows.items():
            self.assertEqual(told.say(row), answer, row)


class TestAnswers(Case):
    def test_a_run(self):
        told = at_work("wish 0 b 6", "wish 2 a 2", "wish 2 a 1", "run 4")
        self.says(told, {"now": "4", "jobs a": "0 -1 2 -; 1 9 9 -", "jobs b": "0 0 0 -", "late": "none", "holder x": "nobody",
                         "trace": "0-4 b 0", "why a 0": "held 3; b 0 2", "why a 1": "none", "why b 0": "own 4", "blame a 0": "none"})
        told = at_work("wish 0 b 6", "wish 2 a 2", "run 3")
        self.says(told, {"holder x": "b 0", "bound a": "7", "bound b": "10", "kept": "kept"})
        told.say("run 20")
        self.says(told, {"now": "20", "jobs a": "0 -1 2 6", "jobs b": "0 0 0 8", "trace": "0-4 b 0; 4-6 a 0; 6-8 b 0",
                         "why a 0": "held 3; own 2; b 0 2", "why b 0": "own 6; a 0 2", "late": "none", "holder x": "nobody"})

    def test_none_yet(self):
        told = at_work()
        self.says(told, {"now": "0", "jobs a": "none", "late": "none", "trace": "none", "holder x": "nobody", "run 0": "ok"})

    def test_why(self):
        told = at_work("wish 0 b 9", "wish 1 b 9", "wish 1 a 2", "wish 2 a 2", "wish 24 a 1", "run 60")
        self.says(told, {"jobs a": "0 -2 1 3; 1 8 8 10; 2 21 24 25", "jobs b": "0 0 0 8; 1 20 20 27", "why a 0": "held 3; own 2",
                         "why a 1": "own 2", "why a 2": "held 3; own 1", "why b 0": "own 6; a 0 2",
                         "why b 1": "own 6; a 2 1"})
        told = desk(*TASKS, "works open", "wish 0 b 6", "wish 1 b 6", "wish 2 b 2", "wish 4 a 1", "wish 4 a 2", "run 60")
        self.says(told, {"why b 2": "own 2; elder 10; a 0 1; a 1 2"})

    def test_late_and_blame(self):
        told = desk("task a rank 1 gap 10 most 2 due 10 wait 0", "task b rank 2 gap 20 most 6 due 9 wait 0", "works loose",
                    "wish 0 a 7", "wish 0 b 7", "wish 10 a 20", "run 60")
        self.says(told, {"late": "a 1; b 0", "blame b 0": "a 0 long; a 1 long; b 0 long", "blame a 0": "a 0 long", "kept": "kept"})
        told = desk("task a rank 1 gap 10 most 2 due 2 wait 0", "works open", "wish 0 a 2", "wish 0 a 2", "run 60")
        self.says(told, {"late": "none", "blame a 1": "a 1 early", "blame a 0": "none", "jobs a": "0 0 0 2; 1 10 0 4"})

    def test_a_plan_that_isnt_kept(self):
        told = desk("task c rank 3 gap 10 most 2 due 10 wait 0", "task a rank 1 gap 10 most 5 due 10 wait 0",
                    "task b rank 2 gap 10 most 5 due 9 wait 0", "works")
        self.says(told, {"kept": "late b", "bound a": "5", "bound b": "none", "bound c": "none"})

    def test_gate_and_guard(self):
        rows = ["wish 0 b 9", "wish 1 a 2", "wish 1 a 2", "run 60"]
        self.says(at_work(*rows), {"jobs a": "0 -2 1 3; 1 8 8 10", "jobs b": "0 0 0 8"})
        self.says(at_work(*rows, works="works open"), {"jobs a": "0 -2 1 3; 1 8 1 5", "jobs b": "0 0 0 10"})
        self.says(at_work(*rows, works="works loose"), {"jobs a": "0 -2 1 3; 1 8 8 10", "jobs b": "0 0 0 13"})

    def test_great_numbers(self):
        told = desk(f"task a rank {GREAT} gap {GREAT} most {GREAT} due {GREAT} wait {GREAT}", "works", f"wish 1 a {GREAT}",
                    f"run {GREAT}")
        self.says(told, {"now": f"{GREAT}", "trace": f"1-{GREAT} a 0", "jobs a": f"0 {1 - GREAT} 1 -", "late": "a 0",
                         "why a 0": f"held {GREAT}; own {GREAT - 1}", "bound a": "none", "kept": "late a"})

    def test_as_told_otherwise(self):
        chance = random.Random(43)
        for _ in range(100):
            plan = random_plan(chance, most=9)
            word, gate, guard = chance.choice([("works", True, True), ("works open", False, True), ("works loose", True, False)])
            told = desk(*show_plan(plan).split("\n"), word)
            works = Works(plan, gate=gate, guard=guard)
            for hour, task, work in random_wishes(chance, plan):
                works.wish(hour, task, work)
                self.assertEqual(told.say(f"wish {hour} {task} {work}"), "ok")
            for hour in sorted(chance.randrange(90) for _ in range(4)):
                works.run(hour)
                self.assertEqual(told.say(f"run {hour}"), "ok")
                self.alike(told, plan, works)

    def alike(self, told, plan, works):
        self.says(told, {"now": f"{works.now()}", "trace": show_trace(works.trace()).replace("\n", "; ") or "none",
                         "late": "; ".join(f"{name} {number}" for name, number in works.late()) or "none",
                         "kept": " ".join(paper(plan)[:1 + (paper(plan)[0] == "late")])})
        for lock in plan.locks():
            holder = works.holder(lock)
            self.assertEqual(told.say(f"holder {lock}"), "nobody" if holder is None else "{} {}".format(*holder))
        for task in plan.tasks():
            self.assertEqual(told.say(f"bound {task.name}"), str(bound(plan, task.name)).lower())
            rows = [row for row in works.jobs() if row[0] == task.name]
            self.assertEqual(told.say(f"jobs {task.name}"), "; ".join(
                f"{row[1]} {row[2]} {row[3]} {'-' if row[6] is None else row[6]}" for row in rows) or "none")
            for row in rows:
                names = "{} {}".format(*row[:2])
                had = parts(works, *row[:2])
                words = [f"{word} {had[word]}" for word in ["held", "own", "elder"] if word in had]
                words += ["{} {} {}".format(*job[:2], had[job[:2]]) for job in works.jobs() if job[:2] in had]
                self.assertEqual(told.say(f"why {names}"), "; ".join(words) or "none")
                self.assertEqual(told.say(f"blame {names}"),
                                 "; ".join("{} {} {}".format(*each) for each in blamed(works, *row[:2])) or "none")


class TestWorksRows(Case):
    def test_tasks_told_since_the_last_works_row(self):
        told = at_work("wish 0 b 6", "run 9")
        self.assertEqual(told.say("task c rank 1 gap 9 most 1 due 9 wait 0"), "ok")
        self.refused(NoTask, {"name": "c"}, told, "bound c")
        self.assertEqual(told.say("now"), "9")
        self.assertEqual(told.say("works open"), "ok")
        self.says(told, {"now": "0", "bound c": "1", "trace": "none"})
        self.refused(NoTask, {"name": "b"}, told, "bound b")
        self.assertEqual(told.say("works"), "ok")
        self.refused(NoTask, {"name": "c"}, told, "bound c")
        self.says(told, {"kept": "kept", "late": "none", "run 7": "ok", "now": "7"})

    def test_works_that_are_refused(self):
        twice = TASKS[0].replace("rank 1", "rank 5")
        shared = TASKS[0].replace("task a", "task c")
        for rows, error, fields in [([TASKS[0], twice], Twice, {"name": "a"}), ([TASKS[0], shared], Shared, {"rank": 1}),
                                    ([TASKS[0], shared, TASKS[0]], Shared, {"rank": 1}), ([TASKS[0]] * 2, Twice, {"name": "a"})]:
            for word in ["works", "works open", "works loose"]:
                told = at_work("wish 0 b 6", "run 3")
                for row in rows:
                    self.assertEqual(told.say(row), "ok")
                self.refused(error, fields, told, word)
                # Those of before go on.
                self.says(told, {"now": "3", "trace": "0-3 b 0", "holder x": "b 0", "run 9": "ok", "jobs b": "0 0 0 6"})
                # The tasks are gone.
                self.says(told, {shared: "ok", word: "ok", "bound c": "5", "now": "0"})
                told = desk(*rows)
                self.refused(error, fields, told, word)
                self.refused(NoWorks, {}, told, "now")

    def test_a_row_that_is_none_changes_nothing(self):
        told = desk(TASKS[0])
        self.no_ask(told, ["works shut", "task b", "works open loose", TASKS[0] + " "])
        self.says(told, {TASKS[1]: "ok", "works": "ok", "bound a": "7", "bound b": "10"})


class TestRefused(Case):
    ASKED = ["wish 0 a 1", "run 5", "now", "bound a", "kept", "jobs a", "late", "trace", "why a 0", "blame a 0", "holder x"]

    def test_ahead_of_works(self):
        for rows in [[], TASKS]:
            for row in self.ASKED + ["wish 0 zz 0", "bound Zz", "why zz 9", "holder q"]:
                self.refused(NoWorks, {}, desk(*rows), row)
        told = desk(*TASKS)
        self.no_ask(told, ["wish 0 a", "bound", "x"])
        self.says(told, {"works": "ok", "bound a": "7"})

    def test_what_is_no_row(self):
        rows = ["", " ", "  ", "x", "ok", "task", "Now", "now ", " now", "now 0", "now now", "work", "works ", " works", "works  open",
                "works Open", "works shut", "works open open", "wish", "wish 0 a", "wish 0 a 1 ", "wish 0 a 1 1", "wish 00 a 1",
                "wish 0 a 01", "wish -1 a 1", "wish 0 a -1", "wish a a 1", "wish 0  1", "wish  a 1", "wish 0 a ", "wish 0 a 1.0",
                "wish +0 a 1", "run", "run ", "run x", "run 07", "run -1", "run 7 8", "run 1_0", "bound", "bound ", "bound  a",
                "bound a b", "kept a", "kept ", "jobs", "jobs ", "jobs a 0", "late a", "trace 0", "why", "why a", "why a ", "why a x",
                "why a 00", "why a -1", "why  0", "why a 0 0", "why 0", "blame", "blame a", "blame a 0 early", "blame a 01", "holder",
                "holder ", "holder x y", "task a", TASKS[0].replace("due 10", "due 11"), TASKS[0].replace("rank 1", "rank 01"),
                TASKS[0].replace(" wait 3", ""), TASKS[0] + " section 0 1 x", TASKS[1] + " section 0 1 y", "wishes", "help",
                "message a rank 1 gap 10 most 2 due 10 wait 3"]
        for told in [Desk(), desk(*TASKS), at_work("wish 0 a 1", "run 1")]:
            self.no_ask(told, rows)

    def test_what_is_no_text(self):
        for told in [Desk(), at_work("run 1")]:
            self.no_ask(told, [thing for thing in odd_things() if type(thing) is not str])
            self.no_ask(told, [["now"], ("now",), b"now", None, 0, 7, {"now": 1}])

            class Row(str):
                pass

            self.no_ask(told, [Row("now")])

    def test_as_the_works_refuse(self):
        told = at_work("wish 0 b 6", "run 5")
        before = [told.say(row) for row in ["now", "jobs a", "jobs b", "trace"]]
        for row, error, fields in [
                ("wish 4 z 0", Past, {"hour": 4}), ("wish 5 z 0", NoTask, {"name": "z"}), ("wish 5 a 0", BadWork, {"work": 0}),
                ("run 4", Past, {"hour": 4}), ("run 0", Past, {"hour": 0}), ("bound z", NoTask, {"name": "z"}),
                ("jobs z", NoTask, {"name": "z"}), ("why z 0", NoTask, {"name": "z"}), ("blame Z9; 0", NoTask, {"name": "Z9;"}),
                ("bound 0", NoTask, {"name": "0"}), ("bound {a}", NoTask, {"name": "{a}"}),
                ("holder a", NoLock, {"lock": "a"}), ("holder -", NoLock, {"lock": "-"}), ("wish 5 works 1", NoTask, {"name": "works"}),
                ("why a 0", NoJob, {"name": "a", "number": 0}), ("why b 1", NoJob, {"name": "b", "number": 1}),
                ("blame b 1", NoJob, {"name": "b", "number": 1}), ("blame z 1", NoTask, {"name": "z"}),
                (f"why b {GREAT}", NoJob, {"name": "b", "number": GREAT})]:
            self.refused(error, fields, told, row)
        self.assertEqual([told.say(row) for row in ["now", "jobs a", "jobs b", "trace"]], before)

    def test_a_job_that_isnt_there_yet(self):
        told = at_work("wish 5 a 1", "run 5")
        self.refused(NoJob, {"name": "a", "number": 0}, told, "why a 0")
        self.says(told, {"jobs a": "none", "run 6": "ok", "why a 0": "held 3; own 1"})

    def test_desks_apart(self):
        one, other = at_work("run 5"), at_work("run 7")
        self.assertEqual((one.say(row="now"), other.say("now")), ("5", "7"))


if __name__ == "__main__":
    unittest.main()
