"""[17], [18] and of [4] what it says of plans, bounds, papers and runs."""

import copy
import random
import unittest

from plain import PlainRun, odd_things, plain_bound, plain_jobs, plain_right_side, random_plan
from promptworks.bounds import bound, is_kept
from promptworks.errors import NoBound, NoTask
from promptworks.papers import meeting, paper, shows_kept, shows_late
from promptworks.plans import Plan
from promptworks.tasks import Task
from promptworks.works import Works

GREAT = 10 ** 12


def kept():
    """A kept plan: its bounds are 8, 13 and 17, less the waits 6, 13 and 16 ticks."""
    return Plan([Task("a", rank=1, gap=10, most=3, wait=2, sections=[(0, 2, "x")]),
                 Task("b", rank=2, gap=20, most=4),
                 Task("c", rank=3, gap=50, most=6, wait=1, sections=[(1, 4, "x")])])


def broken():
    """A plan of which b, then c, have no bounds: b is held back by d."""
    return Plan([Task("a", rank=1, gap=8, most=3), Task("b", rank=2, gap=12, most=4, due=8, sections=[(0, 1, "x")]),
                 Task("c", rank=3, gap=40, most=40), Task("d", rank=4, gap=60, most=6, sections=[(2, 3, "x")])])


def ends_by(jobs):
    """How much behind its arrival each job is at its end: (name, ticks)."""
    return [(name, end - arrival) for name, number, arrival, release, work, done, end in jobs]


def within(plan, wishes):
    """Whether the wishes are tuples of whole numbers within the limits, by plain reckoning."""
    jobs = plain_jobs(plan.tasks(), wishes, True)
    return (type(wishes) is list and len(jobs) == len(wishes)
            and all(type(row) is tuple and type(row[0]) is int and type(row[2]) is int for row in wishes)
            and all(job.hour >= job.arrival and job.hour >= 0 and 1 <= job.work <= job.task.most for job in jobs))


def plain_late(plan, wishes):
    """The names of whose jobs are late in the run of the wishes, by the plain machine."""
    jobs = plain_jobs(plan.tasks(), wishes, True)
    hour = max([0] + [max(job.hour + 1, job.arrival + job.task.due) for job in jobs])
    return sorted({name for name, number in PlainRun(plan.tasks(), wishes, hour).late()})


class TestPaper(unittest.TestCase):
    def test_kept(self):
        self.assertEqual(paper(kept()), ("kept", {"a": 6, "b": 13, "c": 16}))
        self.assertEqual(paper(plan=Plan()), ("kept", {}))
        self.assertIs(type(paper(kept())), tuple)

    def test_late_is_the_most_urgent_without_a_bound(self):
        word, name, wishes = paper(broken())
        self.assertEqual((word, name), ("late", "b"))
        self.assertTrue(within(broken(), wishes))
        self.assertIn("b", plain_late(broken(), wishes))
        self.assertTrue(shows_late(broken(), name, wishes))

    def test_one_tick_more_of_due_and_it_is_kept(self):
        for due, word in [(8, "late"), (9, "kept")]:
            plan = Plan([Task("a", rank=1, gap=9, most=3),
                         Task("b", rank=2, gap=12, most=5, due=due, sections=[(0, 1, "x")]),
                         Task("c", rank=3, gap=90, most=5, sections=[(2, 2, "x")])])
            self.assertEqual(paper(plan)[0], word)

    def test_told_things_are_new(self):
        plan = kept()
        paper(plan)[1].clear()
        self.assertEqual(paper(plan), ("kept", {"a": 6, "b": 13, "c": 16}))
        plan = broken()
        told = copy.deepcopy(paper(plan))
        paper(plan)[2].clear()
        self.assertEqual(paper(plan), told)
        meeting(kept(), "b").clear()
        self.assertTrue(meeting(kept(), "b"))

    def test_more_urgent_ones_that_fill_all_time(self):
        plan = Plan([Task("a", rank=1, gap=4, most=2), Task("b", rank=2, gap=4, most=2), Task("c", rank=3, gap=90, most=1)])
        word, name, wishes = paper(plan)
        self.assertEqual((word, name), ("late", "c"))
        self.assertTrue(within(plan, wishes))
        self.assertIn("c", plain_late(plan, wishes))

    def test_a_wait_beyond_the_due(self):
        for wait in [6, 7, 8, 30]:
            plan = Plan([Task("top", rank=1, gap=9, most=1), Task("a", rank=2, gap=9, most=1, due=7, wait=wait)])
            word, name, wishes = paper(plan)
            self.assertEqual((word, name), ("late", "a"))
            self.assertTrue(within(plan, wishes))
            self.assertIn("a", plain_late(plan, wishes))

    def test_great_waits(self):
        plan = Plan([Task("a", rank=1, gap=100, most=1, due=100, wait=99), Task("b", rank=2, gap=10, most=1, wait=GREAT),
                     Task("c", rank=3, gap=90, most=1)])
        self.assertEqual(paper(plan)[:2], ("late", "b"))
        plan = Plan([Task("a", rank=1, gap=GREAT // 50, most=3, wait=GREAT),
                     Task("b", rank=2, gap=GREAT // 50, most=GREAT // 51, due=GREAT // 50)])
        word, name, wishes = paper(plan)
        self.assertEqual((word, name), ("late", "a"))
        self.assertTrue(shows_late(plan, name, wishes))
        self.assertTrue(within(plan, wishes))

    def test_great_numbers(self):
        tenth = GREAT // 10
        plan = Plan([Task("a", rank=1, gap=tenth, most=tenth // 2, wait=3, sections=[(0, 9, "x")]),
                     Task("b", rank=2, gap=GREAT, most=tenth, wait=tenth),
                     Task("c", rank=3, gap=GREAT, most=tenth, sections=[(tenth // 2, 8, "x")])])
        self.assertEqual(paper(plan), ("kept", {"a": tenth // 2 + 7, "b": 5 * tenth // 2 + 7, "c": 9 * tenth // 2}))
        self.assertTrue(shows_kept(plan, paper(plan)[1]))
        for name, told in [("a", tenth // 2 + 10), ("b", 7 * tenth // 2 + 7), ("c", 9 * tenth // 2)]:
            self.assertEqual(bound(plan, name), told)
            works = Works(plan)
            works.wishes(meeting(plan, name))
            works.run(5 * GREAT)
            self.assertIn((name, told), ends_by(works.jobs()))
            self.assertFalse(shows_late(plan, name, meeting(plan, name)))


class TestShowsKept(unittest.TestCase):
    def test_the_least_ones_and_greater_ones(self):
        for ticks in [{"a": 6, "b": 13, "c": 16}, {"a": 8, "b": 13, "c": 16}, {"a": 6, "b": 14, "c": 49},
                      {"c": 16, "b": 20, "a": 7}]:
            self.assertIs(shows_kept(kept(), ticks), True)
        self.assertIs(shows_kept(plan=Plan(), ticks={}), True)

    def test_below_the_right_side_or_beyond_the_due(self):
        for name, number in [("a", 5), ("a", 9), ("a", 0), ("b", 12), ("b", 21), ("b", 0), ("c", 15), ("c", 50),
                             ("c", 10 ** 40), ("a", -1), ("b", -10 ** 40)]:
            self.assertIs(shows_kept(kept(), {"a": 6, "b": 13, "c": 16, name: number}), False)

    def test_between_two_that_are_their_own_right_side(self):
        plan = Plan([Task("a", rank=1, gap=5, most=3), Task("b", rank=2, gap=40, most=2)])
        told = [number for number in range(45) if shows_kept(plan, {"a": 3, "b": number})]
        self.assertEqual(told, [number for number in range(41) if number >= 2 + 3 * -(-number // 5)])
        self.assertNotIn(6, told)
        self.assertIn(5, told)

    def test_names_that_lack_or_are_strangers(self):
        for ticks in [{}, {"a": 6, "b": 13}, {"b": 13, "c": 16}, {"a": 6, "b": 13, "c": 16, "d": 1},
                      {"a": 6, "b": 13, "d": 16}, {"a": 6, "b": 13, "c": 16, "": 1}, {"A": 6, "b": 13, "c": 16},
                      {"a": 6, "b": 13, "c": 16, None: 1}, {"a": 6, "b": 13, 0: 1}, {"a": 6, "b": 13, ("c",): 16},
                      {b"a": 6, "b": 13, "c": 16}]:
            self.assertIs(shows_kept(kept(), ticks), False)
        self.assertIs(shows_kept(Plan(), {"a": 1}), False)
        self.assertIs(shows_kept(broken(), {"a": 3, "b": 8, "c": 40, "d": 60}), False)

    def test_of_anything(self):
        fine = {"a": 6, "b": 13, "c": 16}
        one = Plan([Task("a", rank=1, gap=9, most=1)])
        self.assertIs(shows_kept(one, {"a": 1}), True)
        for odd in odd_things() + [[fine], [("a", 6), ("b", 13), ("c", 16)], (6, 13, 16), "abc", fine.items()]:
            self.assertIs(shows_kept(kept(), odd), False)
            self.assertIs(shows_kept(one, {"a": odd}), False)
            self.assertIs(shows_kept(kept(), {**fine, "b": odd}), False)
            try:
                strange = {"a": 6, "b": 13, "c": 16, odd: 5}
            except TypeError:
                continue
            self.assertIs(shows_kept(kept(), strange), False)

    def test_changes_nothing_that_is_handed_in(self):
        ticks = {"a": 6, "b": 13, "c": 16}
        shows_kept(kept(), ticks)
        self.assertEqual(list(ticks.items()), [("a", 6), ("b", 13), ("c", 16)])


class TestShowsLate(unittest.TestCase):
    WISHES = [(0, "d", 6), (3, "b", 4), (3, "a", 3)]

    def test_late_by_one_tick(self):
        self.assertIs(shows_late(broken(), "b", self.WISHES), True)
        self.assertIs(shows_late(plan=broken(), name="b", wishes=tuple(self.WISHES[::-1])), True)

    def test_just_at_the_due(self):
        self.assertIs(shows_late(broken(), "b", [(0, "d", 6), (3, "b", 3), (3, "a", 3)]), False)
        self.assertIs(shows_late(broken(), "b", [(0, "d", 6), (4, "b", 4), (4, "a", 3)]), False)
        self.assertIs(shows_late(broken(), "b", []), False)
        self.assertIs(shows_late(broken(), "b", ()), False)

    def test_a_job_of_this_task(self):
        for name in "acd":
            self.assertIs(shows_late(broken(), name, self.WISHES), False)
        wishes = [(0, "c", 40), (0, "a", 3)]
        self.assertEqual([shows_late(broken(), name, wishes) for name in "abcd"], [False, False, True, False])

    def test_any_job_of_it(self):
        rows = [(hour, "b", 1) for hour in range(100, 400, 12)]
        self.assertIs(shows_late(broken(), "b", self.WISHES + rows), True)
        self.assertIs(shows_late(broken(), "b", rows), False)

    def test_wishes_that_come_early(self):
        self.assertIs(shows_late(broken(), "b", self.WISHES + [(14, "b", 1)]), False)
        self.assertIs(shows_late(broken(), "b", self.WISHES + [(15, "b", 1)]), True)
        self.assertIs(shows_late(broken(), "b", self.WISHES + [(99, "c", 1), (138, "c", 1)]), False)
        self.assertIs(shows_late(broken(), "b", self.WISHES + [(99, "c", 1), (139, "c", 1)]), True)
        self.assertIs(shows_late(broken(), "b", self.WISHES + self.WISHES[:1]), False)

    def test_work_above_the_most(self):
        self.assertIs(shows_late(broken(), "b", [(0, "d", 7), (3, "b", 4), (3, "a", 3)]), False)
        self.assertIs(shows_late(broken(), "b", self.WISHES + [(500, "a", 4)]), False)
        self.assertIs(shows_late(broken(), "b", self.WISHES + [(500, "a", 3)]), True)

    def test_a_job_that_is_late_when_it_is_wished(self):
        plan = Plan([Task("a", rank=1, gap=5, most=1, wait=9, due=2)])
        self.assertIs(shows_late(plan, "a", [(0, "a", 1)]), True)
        self.assertIs(shows_late(plan, "a", [(50, "a", 1)]), True)

    def test_names_that_are_none(self):
        for odd in odd_things() + ["e", "x", "", "b ", ["b"], ("b",), {"b": 1}, b"b"]:
            self.assertIs(shows_late(broken(), odd, self.WISHES), False)
        self.assertIs(shows_late(Plan(), "b", []), False)

    def test_wrong_wishes(self):
        for row in [(-1, "a", 1), (0, "e", 1), (0, "", 1), (90, "a", 0), (90, "a", -1), (90, "a"), (90, "a", 1, 1), (),
                    [90, "a", 1], "aaa", (90, ["a"], 1), (True, "a", 1), (90, "a", True), (90.0, "a", 1),
                    (90, "a", 1.0), (90, b"a", 1), ("90", "a", 1), (90, None, 1), (90, "a", None), None]:
            self.assertIs(shows_late(broken(), "b", self.WISHES + [row]), False, row)
            self.assertIs(shows_late(broken(), "b", [row] + self.WISHES), False, row)

    def test_of_anything(self):
        for odd in odd_things() + [set(self.WISHES), dict.fromkeys(self.WISHES), iter(self.WISHES), "ab"]:
            self.assertIs(shows_late(broken(), "b", odd), False)
            self.assertIs(shows_late(broken(), "b", self.WISHES + [odd]), False)
            self.assertIs(shows_late(broken(), "b", self.WISHES + [(90, odd, 1)]), False)
            self.assertIs(shows_late(broken(), "b", self.WISHES + [(90, "a", odd)]), False)
            if type(odd) is not int or odd != 0:
                self.assertIs(shows_late(broken(), "b", self.WISHES + [(odd, "c", 1)]), False)

    def test_changes_nothing_that_is_handed_in(self):
        wishes = list(self.WISHES)
        shows_late(broken(), "b", wishes)
        self.assertEqual(wishes, self.WISHES)

    def test_great_numbers(self):
        wishes = [(GREAT + hour, name, work) for hour, name, work in self.WISHES]
        self.assertIs(shows_late(broken(), "b", wishes), True)
        self.assertIs(shows_late(broken(), "c", wishes), False)

    def test_against_the_plain_machine(self):
        chance = random.Random(18)
        late = 0
        for _ in range(400):
            plan = random_plan(chance, gaps=(3, 9), most=4)
            tasks = plan.tasks()
            wishes = []
            for _ in range(chance.randint(0, 7)):
                task = chance.choice(tasks)
                wishes.append((chance.randrange(30), task.name, chance.randint(1, task.most)))
            names = plain_late(plan, wishes) if within(plan, wishes) else []
            late += len(names)
            for task in tasks:
                self.assertIs(shows_late(plan, task.name, wishes), task.name in names)
        self.assertGreater(late, 50)


class TestMeeting(unittest.TestCase):
    def test_just_the_bound(self):
        for name, told in [("a", 8), ("b", 13), ("c", 17)]:
            wishes = meeting(kept(), name)
            self.assertTrue(within(kept(), wishes))
            self.assertIn((name, told), ends_by(PlainRun(kept().tasks(), wishes, 100).jobs()))
        self.assertEqual(meeting(plan=kept(), name="c"), meeting(kept(), "c"))

    def test_refused(self):
        for name, error in [("b", NoBound), ("c", NoBound), ("d", NoBound), ("e", NoTask), ("", NoTask)]:
            with self.assertRaises(error) as caught:
                meeting(broken(), name)
            self.assertEqual(caught.exception.name, name)
        self.assertTrue(meeting(broken(), "a"))

    def test_waits_above_gaps(self):
        plan = Plan([Task("a", rank=1, gap=5, most=1, wait=23), Task("b", rank=2, gap=40, most=3, wait=4)])
        self.assertEqual(bound(plan, "b"), 4 + 10)
        wishes = meeting(plan, "b")
        self.assertTrue(within(plan, wishes))
        self.assertIn(("b", 14), ends_by(PlainRun(plan.tasks(), wishes, 100).jobs()))

    def test_held_back_by_the_longest_of_several_sections(self):
        plan = Plan([Task("a", rank=1, gap=60, most=4, sections=[(0, 3, "x")]),
                     Task("b", rank=2, gap=60, most=5, sections=[(1, 2, "x")]),
                     Task("c", rank=3, gap=60, most=20, sections=[(2, 12, "y"), (4, 6, "x")]),
                     Task("d", rank=4, gap=60, most=20, sections=[(3, 2, "y"), (9, 7, "x")])])
        for name, told in [("a", 4 + 6), ("b", 9 + 6), ("c", 29 + 6), ("d", 49)]:
            self.assertEqual(bound(plan, name), told)
            wishes = meeting(plan, name)
            self.assertTrue(within(plan, wishes))
            self.assertIn((name, told), ends_by(PlainRun(plan.tasks(), wishes, 200).jobs()))


def kept_plans(chance, many):
    """So many plans by chance that are kept, of tasks with sections."""
    plans = []
    while len(plans) < many:
        plan = random_plan(chance, many=4, gaps=(12, 60), most=9, waits=(0, 0, 2, 5))
        if is_kept(plan):
            plans.append(plan)
    return plans


class TestThePromise(unittest.TestCase):
    """[4]: what papers tell is so in runs of the plain machine."""

    def test_just_one_of_both(self):
        chance = random.Random(41)
        words = {"kept": 0, "late": 0}
        for _ in range(700):
            plan = random_plan(chance, many=4, gaps=(5, 40), most=8, waits=(0, 0, 2, 5, 60))
            tasks = plan.tasks()
            told = paper(plan)
            words[told[0]] += 1
            bounds = {task.name: plain_bound(tasks, task) for task in tasks}
            if told[0] == "kept":
                self.assertEqual(told[1], {task.name: bounds[task.name] - task.wait for task in tasks})
                for task in tasks:
                    self.assertEqual(plain_right_side(tasks, task, told[1][task.name]), told[1][task.name])
                self.assertTrue(shows_kept(plan, told[1]))
            else:
                word, name, wishes = told
                self.assertEqual(name, next(task.name for task in tasks if bounds[task.name] is None))
                self.assertTrue(within(plan, wishes))
                self.assertIn(name, plain_late(plan, wishes))
                self.assertTrue(shows_late(plan, name, wishes))
                chance.shuffle(wishes)
                self.assertTrue(shows_late(plan, name, wishes))
        self.assertGreater(min(words.values()), 100)

    def test_no_dict_shows_a_plan_kept_that_isnt(self):
        chance = random.Random(42)
        for _ in range(60):
            plan = random_plan(chance, many=2, gaps=(3, 8), most=5)
            names = [task.name for task in plan.tasks()]
            dicts = [{}]
            for name in names:
                dicts = [{**row, name: number} for row in dicts for number in range(10)]
            self.assertEqual(any(shows_kept(plan, row) for row in dicts), paper(plan)[0] == "kept")

    def test_whatever_is_wished_the_bounds_are_kept(self):
        chance = random.Random(43)
        for plan in kept_plans(chance, 150):
            tasks = plan.tasks()
            wishes = []
            for _ in range(chance.randint(1, 30)):
                task = chance.choice(tasks)
                wishes.append((chance.randrange(80), task.name, chance.randint(1, task.most + 3)))
            works = Works(plan)
            works.wishes(wishes)
            works.run(3000)
            self.assertEqual(works.late(), [])
            for name, ticks in ends_by(works.jobs()):
                self.assertLessEqual(ticks, bound(plan, name))

    def test_no_wishes_within_the_limits_show_a_kept_plan_late(self):
        chance = random.Random(44)
        for plan in kept_plans(chance, 40):
            tasks = plan.tasks()
            for _ in range(5):
                wishes = []
                for task in tasks:
                    arrival = chance.randint(0, 12)
                    for _ in range(4):
                        wishes.append((arrival + chance.randint(0, task.wait), task.name, task.most))
                        arrival += task.gap + chance.choice([0, 0, 0, 1])
                for task in tasks:
                    self.assertFalse(shows_late(plan, task.name, wishes))

    def test_there_is_a_run_that_takes_just_the_bound(self):
        chance = random.Random(45)
        for plan in kept_plans(chance, 100):
            for task in plan.tasks():
                told = bound(plan, task.name)
                wishes = meeting(plan, task.name)
                self.assertTrue(within(plan, wishes))
                jobs = PlainRun(plan.tasks(), wishes, 500).jobs()
                self.assertIn((task.name, told), ends_by(jobs))
                self.assertFalse(shows_late(plan, task.name, wishes))


if __name__ == "__main__":
    unittest.main()
