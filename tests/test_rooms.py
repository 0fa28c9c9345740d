"""[20] and of [4] what it says of how much more a task may ask."""

import random
import unittest

from plain import PlainRun, plain_bound, plain_jobs, random_plan
from promptworks.bounds import is_kept
from promptworks.errors import NoTask, NotKept
from promptworks.papers import shows_late
from promptworks.plans import Plan
from promptworks.rooms import room
from promptworks.tasks import Task

GREAT = 10 ** 12
PARTS = ["most", "wait", "gap"]


def more(plan, name, part, many):
    """The plan in which the task asks so much more; None where it were no task any more."""
    rows = []
    for each in plan.tasks():
        told = {"rank": each.rank, "gap": each.gap, "most": each.most, "due": each.due, "wait": each.wait,
                "sections": each.sections}
        if each.name == name:
            told[part] += -many if part == "gap" else many
            told["due"] = min(told["due"], told["gap"])
        if told["gap"] < 1:
            return None
        rows.append(Task(each.name, **told))
    return Plan(rows)


def plain_kept(plan):
    return all(plain_bound(plan.tasks(), each) is not None for each in plan.tasks())


def kept():
    """A kept plan; its bounds are 8, 13 and 17."""
    return Plan([Task("a", rank=1, gap=10, most=3, wait=2, sections=[(0, 2, "x")]),
                 Task("b", rank=2, gap=20, most=4),
                 Task("c", rank=3, gap=50, most=6, wait=1, sections=[(1, 4, "x")])])


class TestRoom(unittest.TestCase):
    def check(self, plan, name, part):
        """Holds what is told against the plans with so much more, and one more; tells it."""
        told = room(plan, name, part=part)
        many = told[1]
        self.assertIs(type(told), tuple)
        self.assertTrue(is_kept(more(plan, name, part, many)))
        beyond = more(plan, name, part, many + 1)
        if told[0] == "all":
            self.assertEqual(len(told), 2)
            self.assertIsNone(beyond)
            return told
        word, many, late, wishes = told
        self.assertEqual(word, "room")
        self.assertIs(type(wishes), list)
        self.assertFalse(is_kept(beyond))
        self.assertTrue(shows_late(beyond, late, wishes))
        return told

    def test_of_each_part(self):
        told = {(name, part): self.check(kept(), name, part)[1] for name in "abc" for part in PARTS}
        self.assertEqual(told, {("a", "most"): 2, ("a", "wait"): 2, ("a", "gap"): 2, ("b", "most"): 5,
                                ("b", "wait"): 7, ("b", "gap"): 7, ("c", "most"): 15, ("c", "wait"): 33,
                                ("c", "gap"): 33})

    def test_the_most_where_no_part_is_told(self):
        for name in "abc":
            self.assertEqual(room(kept(), name), room(kept(), name, part="most"))
        self.assertEqual(room(plan=kept(), name="b", part="wait"), room(kept(), "b", part="wait"))
        with self.assertRaises(TypeError):
            room(kept(), "a", "most")

    def test_one_task(self):
        plan = Plan([Task("a", rank=3, gap=9, most=4, due=7, wait=1)])
        self.assertEqual([self.check(plan, "a", part)[:3] for part in PARTS],
                         [("room", 2, "a"), ("room", 2, "a"), ("room", 4, "a")])

    def test_another_one_is_late(self):
        plan = Plan([Task("a", rank=1, gap=20, most=4), Task("b", rank=2, gap=20, most=4, due=9)])
        self.assertEqual([self.check(plan, "a", part)[:3] for part in PARTS],
                         [("room", 1, "b"), ("room", 12, "b"), ("room", 12, "b")])
        self.assertEqual([self.check(plan, "b", part)[:3] for part in PARTS],
                         [("room", 1, "b"), ("room", 1, "b"), ("room", 12, "b")])

    def test_no_room(self):
        plan = Plan([Task("a", rank=1, gap=4, most=4)])
        self.assertEqual([self.check(plan, "a", part)[:3] for part in PARTS], [("room", 0, "a")] * 3)

    def test_the_gap_comes_down_to_the_due_and_below(self):
        for due, many in [(9, 16), (4, 16), (20, 16)]:
            plan = Plan([Task("a", rank=1, gap=20, most=4, due=due)])
            self.assertEqual(self.check(plan, "a", "gap")[:3], ("room", many, "a"))
            self.assertEqual(more(plan, "a", "gap", many).task("a").due, 4)
        # With the gap still above the due it is another one that is late.
        plan = Plan([Task("a", rank=1, gap=20, most=2, due=4), Task("b", rank=2, gap=30, most=20)])
        self.assertEqual(self.check(plan, "a", "gap")[:3], ("room", 14, "b"))

    def test_all(self):
        self.assertEqual(self.check(Plan([Task("a", rank=1, gap=5, most=1)]), "a", "gap"), ("all", 4))
        self.assertEqual(self.check(Plan([Task("a", rank=1, gap=1, most=1)]), "a", "gap"), ("all", 0))
        self.assertEqual(self.check(Plan([Task("a", rank=1, gap=GREAT, most=1, due=3)]), "a", "gap"), ("all", GREAT - 1))
        plan = Plan([Task("a", rank=1, gap=5, most=1, wait=1)])
        self.assertEqual(self.check(plan, "a", "gap")[:3], ("room", 3, "a"))
        plan = Plan([Task("a", rank=1, gap=5, most=1), Task("b", rank=2, gap=5, most=1)])
        self.assertEqual([self.check(plan, name, "gap")[:3] for name in "ab"], [("room", 3, "b"), ("room", 3, "b")])

    def test_waits_above_gaps(self):
        # b may wait above the gap of a, but not above its own due.
        plan = Plan([Task("a", rank=1, gap=5, most=1), Task("b", rank=2, gap=40, most=3),
                     Task("c", rank=3, gap=400, most=50)])
        self.assertEqual([self.check(plan, name, "wait")[:3] for name in "abc"],
                         [("room", 4, "a"), ("room", 36, "b"), ("room", 330, "c")])

    def test_a_task_with_sections(self):
        plan = Plan([Task("a", rank=1, gap=10, most=5, sections=[(0, 2, "x")]),
                     Task("b", rank=2, gap=30, most=7, sections=[(1, 5, "x")])])
        self.assertEqual([self.check(plan, "b", part)[:3] for part in PARTS],
                         [("room", 8, "b"), ("room", 13, "b"), ("room", 13, "b")])
        self.assertEqual([self.check(plan, "a", part)[:3] for part in PARTS],
                         [("room", 1, "a"), ("room", 1, "a"), ("room", 1, "a")])

    def test_refused(self):
        late = Plan([Task("a", rank=1, gap=4, most=5), Task("b", rank=2, gap=9, most=1)])
        for plan, name, error in [(kept(), "d", NoTask), (kept(), "", NoTask), (late, "d", NoTask), (late, "a", NotKept),
                                  (late, "b", NotKept), (Plan(), "a", NoTask)]:
            for part in PARTS:
                with self.assertRaises(error) as caught:
                    room(plan, name, part=part)
                self.assertEqual(vars(caught.exception), {"name": name} if error is NoTask else {})

    def test_told_things_are_new(self):
        plan = kept()
        told = room(plan, "b")
        held = list(told[3])
        told[3].clear()
        self.assertEqual(room(plan, "b")[3], held)
        self.assertEqual(plan.tasks(), kept().tasks())

    def test_great_numbers(self):
        tenth = GREAT // 10
        plan = Plan([Task("a", rank=1, gap=tenth, most=tenth // 2), Task("b", rank=2, gap=GREAT, most=tenth, wait=tenth),
                     Task("c", rank=3, gap=GREAT, most=tenth, due=GREAT - 1)])
        told = {(name, part): self.check(plan, name, part)[1] for name in "abc" for part in PARTS}
        self.assertEqual(told[("a", "most")], 7 * tenth // 9 - tenth // 2)
        self.assertEqual(told[("b", "wait")], 7 * tenth)
        self.assertEqual(told[("b", "gap")], 7 * tenth)
        self.assertEqual(told[("c", "most")], 5 * tenth // 2)
        plan = Plan([Task("a", rank=1, gap=GREAT, most=GREAT // 10 ** 3), Task("b", rank=2, gap=GREAT, most=GREAT // 2)])
        self.assertEqual(self.check(plan, "a", "gap")[1:3], (GREAT - GREAT // 500, "b"))

    def test_nothing_is_gone_up_to_one_by_one(self):
        # With gaps near 1 the more urgent ones fill, or nearly fill, all time of those with great dues.
        plan = Plan([Task("a", rank=1, gap=GREAT, most=3), Task("b", rank=2, gap=GREAT, most=8, due=10 ** 4),
                     Task("c", rank=3, gap=GREAT, most=9)])
        self.assertEqual(self.check(plan, "b", "gap")[1:3], (GREAT - 11, "b"))
        plan = Plan([Task("a", rank=1, gap=GREAT, most=1000), Task("c", rank=2, gap=GREAT, most=1000),
                     Task("b", rank=3, gap=GREAT, most=500, due=4000)])
        self.assertEqual(self.check(plan, "a", "gap")[1:3], (GREAT - 1750, "b"))

    def test_against_one_by_one(self):
        chance = random.Random(21)
        words = {"room": 0, "all": 0}
        plans = 0
        while plans < 150:
            plan = random_plan(chance, many=3, gaps=(3, 16), most=3, waits=(0, 0, 1, 2))
            if not plain_kept(plan):
                continue
            plans += 1
            for each in plan.tasks():
                for part in PARTS:
                    told = self.check(plan, each.name, part)
                    words[told[0]] += 1
                    many = 0
                    while more(plan, each.name, part, many + 1) and plain_kept(more(plan, each.name, part, many + 1)):
                        many += 1
                    self.assertEqual(told[1], many)
                    if told[0] == "room":
                        self.is_late(more(plan, each.name, part, many + 1), told[2], told[3])
        self.assertGreater(min(words.values()), 10)

    def is_late(self, plan, name, wishes):
        """By the plain machine."""
        tasks = plan.tasks()
        jobs = plain_jobs(tasks, wishes, True)
        self.assertTrue(all(job.hour >= job.arrival and 1 <= job.work <= job.task.most for job in jobs))
        hour = max([max(job.hour + 1, job.arrival + job.task.due) for job in jobs])
        self.assertIn(name, [row[0] for row in PlainRun(tasks, wishes, hour).late()])

    def test_found_by_halves(self):
        chance = random.Random(22)
        plans = 0
        while plans < 20:
            plan = random_plan(chance, many=4, gaps=(10 ** 6, 10 ** 8), most=10 ** 6, waits=(0, 10 ** 5, 10 ** 7), locks=("x",))
            if not is_kept(plan):
                continue
            plans += 1
            for each in plan.tasks():
                for part in PARTS:
                    many, beyond = 0, each.gap
                    while beyond - many > 1:
                        middle = (many + beyond) // 2
                        if is_kept(more(plan, each.name, part, middle)):
                            many = middle
                        else:
                            beyond = middle
                    self.assertEqual(self.check(plan, each.name, part)[1], many)


if __name__ == "__main__":
    unittest.main()
