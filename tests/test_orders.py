"""[19] and of [4] what it says of ranks told: orders, and wishes by which no order keeps the tasks."""

import copy
import itertools
import random
import unittest

from plain import PlainRun, odd_things, plain_bound, plain_jobs, random_plan
from promptworks.bounds import is_kept
from promptworks.errors import Sections, Twice
from promptworks.orders import order, shows_none
from promptworks.plans import Plan
from promptworks.tasks import Task

GREAT = 10 ** 12


def task(name, gap, most, due=None, wait=0, rank=1, sections=()):
    return Task(name, rank=rank, gap=gap, most=most, due=due, wait=wait, sections=sections)


def ranked(tasks):
    """The tasks with ranks in the order in which they are told."""
    return [task(each.name, each.gap, each.most, each.due, each.wait, place + 1) for place, each in enumerate(tasks)]


def orders(tasks):
    """All orders by which the plan is kept, each as names, by plain sums."""
    told = []
    for row in itertools.permutations(tasks):
        rows = ranked(row)
        if all(plain_bound(rows, each) is not None for each in rows):
            told.append([each.name for each in row])
    return told


def is_late(tasks, wishes, name):
    """Whether the wishes are within the limits and a job of the name is late, by the plain machine."""
    jobs = plain_jobs(tasks, wishes, True)
    if len(jobs) != len(wishes) or any(job.hour < job.arrival or job.work > job.task.most for job in jobs):
        return False
    hour = max([0] + [max(job.hour + 1, job.arrival + job.task.due) for job in jobs])
    return name in [row[0] for row in PlainRun(tasks, wishes, hour).late()]


def three():
    """Three tasks that are kept by one order alone: c, a, b."""
    return [task("a", 12, 3, due=7), task("b", 20, 5, rank=3), task("c", 9, 3, due=4, rank=2)]


def crowd():
    """Tasks of which small may be the last, but neither of the two others ahead of it."""
    return [task("small", 40, 1), task("left", 10, 5, due=8), task("right", 12, 4, due=8)]


LATE = {"left": [(0, "left", 5), (0, "right", 4)], "right": [(0, "right", 4), (0, "left", 5)]}


class TestOrder(unittest.TestCase):
    def test_the_one_order(self):
        self.assertEqual(orders(three()), [["c", "a", "b"]])
        self.assertEqual(order(three()), ("order", ["c", "a", "b"]))
        self.assertEqual(order(tuple(three())), ("order", ["c", "a", "b"]))
        self.assertEqual(order(tasks=three()), ("order", ["c", "a", "b"]))

    def test_no_tasks(self):
        self.assertEqual(order([]), ("order", []))
        self.assertEqual(order(()), ("order", []))

    def test_one_task(self):
        self.assertEqual(order([task("a", 5, 5)]), ("order", ["a"]))
        self.assertEqual(order([task("a", 5, 4, wait=1)]), ("order", ["a"]))
        word, runs = order([task("a", 5, 4, wait=2)])
        self.assertEqual((word, list(runs)), ("none", ["a"]))
        self.assertTrue(is_late([task("a", 5, 4, wait=2)], runs["a"], "a"))

    def test_none_of_the_names_may_be_the_last(self):
        word, runs = order(crowd())
        self.assertEqual((word, sorted(runs)), ("none", ["left", "right"]))
        for name in runs:
            self.assertTrue(is_late(ranked([each for each in crowd()[1:] if each.name != name]
                                           + [each for each in crowd() if each.name == name]), runs[name], name))
        self.assertIs(shows_none(crowd(), runs), True)

    def test_ranks_dont_count_and_may_be_shared(self):
        rows = three()
        for ranks in [(1, 1, 1), (3, 2, 1), (1, 2, 3), (GREAT, 5, 5)]:
            told = [task(each.name, each.gap, each.most, each.due, rank=rank) for each, rank in zip(rows, ranks)]
            self.assertEqual(order(told), ("order", ["c", "a", "b"]))
            self.assertIs(shows_none(told, {"a": [(0, "a", 3)]}), False)

    def test_one_tick_more_and_none_keeps_them(self):
        for most, word in [(2, "order"), (3, "none")]:
            rows = [task("a", 4, 2), task("b", 4, 1), task("c", 8, most)]
            self.assertEqual(order(rows)[0], word)

    def test_waits_above_gaps(self):
        rows = [task("a", 10, 1, wait=GREAT), task("b", 20, 1)]
        word, runs = order(rows)
        self.assertEqual(word, "none")
        self.assertTrue(all(len(wishes) < 40 for wishes in runs.values()))
        self.assertIs(shows_none(rows, runs), True)
        rows = [task("a", 10, 1, wait=23), task("b", 20, 1)]
        self.assertEqual(order(rows)[0], "none")
        self.assertIs(shows_none(rows, order(rows)[1]), True)

    def test_refused(self):
        cut = task("a", 30, 9, sections=[(0, 2, "x")])
        also = task("b", 30, 9, sections=[(0, 2, "x")])
        for rows, error, name in [
                ([cut], Sections, "a"), ([task("c", 9, 1), also, cut], Sections, "b"), ([cut, also], Sections, "a"),
                ([task("a", 9, 1), task("b", 9, 1), task("b", 9, 1), task("a", 8, 2)], Twice, "b"),
                ([task("c", 9, 1), task("c", 9, 1), cut], Sections, "a"), ([cut, cut], Sections, "a"),
                ([task("a", 9, 1), task("a", 9, 1, rank=2)], Twice, "a")]:
            for ask in [order, lambda told: shows_none(told, {}), lambda told: shows_none(told, None),
                        lambda told: shows_none(told, {"a": 1})]:
                with self.assertRaises(error) as caught:
                    ask(rows)
                self.assertEqual(vars(caught.exception), {"name": name})

    def test_changes_nothing_and_tells_new_things(self):
        rows = crowd()
        held = list(rows)
        told = copy.deepcopy(order(rows))
        order(rows)[1].clear()
        order(rows)[1]["left"].clear()
        self.assertEqual(order(rows), told)
        self.assertEqual((rows, rows[0]), (held, crowd()[0]))
        rows = three()
        order(rows)[1].clear()
        self.assertEqual((order(rows)[1], rows), (["c", "a", "b"], three()))

    def test_great_numbers(self):
        tenth = GREAT // 10
        rows = [task("a", GREAT, 3 * tenth, rank=9), task("b", tenth, tenth // 2), task("c", GREAT, tenth, wait=tenth)]
        word, names = order(rows)
        self.assertEqual(word, "order")
        self.assertTrue(is_kept(Plan(ranked([rows["abc".index(name)] for name in names]))))
        rows[0] = task("a", GREAT, 4 * tenth)
        word, runs = order(rows)
        self.assertEqual(word, "none")
        self.assertIs(shows_none(rows, runs), True)

    def test_against_all_orders(self):
        chance = random.Random(19)
        words = {"order": 0, "none": 0}
        for _ in range(400):
            tasks = random_plan(chance, many=4, gaps=(3, 14), most=4, waits=(0, 0, 1, 4), locks=("x",)).tasks()
            rows = [task(each.name, each.gap, each.most, each.due, each.wait) for each in tasks]
            chance.shuffle(rows)
            told = order(rows)
            words[told[0]] += 1
            if told[0] == "order":
                self.assertIs(type(told[1]), list)
                self.assertIn(told[1], orders(rows))
            else:
                self.assertEqual(orders(rows), [])
                self.assertIs(shows_none(rows, told[1]), True)
                self.no_order_of_the_names(rows, told[1])
        self.assertGreater(min(words.values()), 100)

    def no_order_of_the_names(self, rows, runs):
        """Whoever is the last of the names, whatever the others' order is, is late by its run."""
        self.assertTrue(runs)
        some = [each for each in rows if each.name in runs]
        self.assertEqual(len(some), len(runs))
        for row in itertools.permutations(some):
            self.assertTrue(is_late(ranked(row), runs[row[-1].name], row[-1].name))


class TestShowsNone(unittest.TestCase):
    def test_in_any_order(self):
        self.assertIs(shows_none(crowd(), LATE), True)
        self.assertIs(shows_none(tasks=crowd()[::-1], runs=dict(reversed(LATE.items()))), True)
        self.assertIs(shows_none(tuple(crowd()), {name: tuple(rows[::-1]) for name, rows in LATE.items()}), True)

    def test_each_of_the_names_is_late(self):
        self.assertIs(shows_none(crowd(), {**LATE, "left": [(0, "left", 4), (0, "right", 4)]}), False)
        self.assertIs(shows_none(crowd(), {**LATE, "right": []}), False)
        self.assertIs(shows_none(crowd(), {**LATE, "small": [(0, "small", 1), (0, "left", 5)]}), False)
        self.assertIs(shows_none(crowd(), {**LATE, "left": LATE["right"], "right": LATE["left"]}), True)

    def test_names_that_lack(self):
        # Of the names alone it is late: with the other away it isn't, and its wishes are a stranger's.
        for name in LATE:
            self.assertIs(shows_none(crowd(), {name: LATE[name]}), False)

    def test_of_the_last_one_alone(self):
        # Each of them is late as the last one: as the first one none would be.
        rows = [task("a", 10, 6), task("b", 10, 6)]
        wishes = [(0, "a", 6), (0, "b", 6)]
        self.assertIs(shows_none(rows, {"a": wishes, "b": wishes}), True)
        self.assertIs(shows_none(rows, {"a": wishes}), False)

    def test_an_empty_dict(self):
        self.assertIs(shows_none(crowd(), {}), False)
        self.assertIs(shows_none([], {}), False)

    def test_wishes_outside_of_its_names(self):
        self.assertIs(shows_none(crowd(), {**LATE, "left": LATE["left"] + [(900, "small", 1)]}), False)
        self.assertIs(shows_none(crowd(), {**LATE, "left": LATE["left"] + [(900, "right", 1)]}), True)
        self.assertIs(shows_none(crowd(), {**LATE, "left": LATE["left"] + [(900, "nobody", 1)]}), False)

    def test_wishes_beyond_the_limits(self):
        for row, told in [((12, "right", 1), True), ((11, "right", 1), False), ((50, "right", 4), True),
                          ((50, "right", 5), False), ((-1, "right", 1), False), ((50, "right", 0), False)]:
            self.assertIs(shows_none(crowd(), {**LATE, "left": LATE["left"] + [row]}), told, row)

    def test_names_of_no_tasks(self):
        for name in ["nobody", "", "left ", "LEFT"]:
            self.assertIs(shows_none(crowd(), {**LATE, name: LATE["left"]}), False)
            self.assertIs(shows_none(crowd(), {name: LATE["left"]}), False)

    def test_of_anything(self):
        for odd in odd_things() + [list(LATE.items()), list(LATE), LATE.items(), [LATE], (LATE,)]:
            self.assertIs(shows_none(crowd(), odd), False)
            self.assertIs(shows_none(crowd(), {"left": odd}), False)
            self.assertIs(shows_none(crowd(), {**LATE, "left": odd}), False)
            self.assertIs(shows_none(crowd(), {**LATE, "right": [odd] + LATE["right"]}), False)
            self.assertIs(shows_none(crowd(), {**LATE, "left": LATE["left"] + [(50, odd, 1)]}), False)
            self.assertIs(shows_none(crowd(), {**LATE, "left": LATE["left"] + [(50, "right", odd)]}), False)
            try:
                strange = {**LATE, odd: LATE["left"]}
            except TypeError:
                continue
            self.assertIs(shows_none(crowd(), strange), False)

    def test_changes_nothing_that_is_handed_in(self):
        runs = copy.deepcopy(LATE)
        shows_none(crowd(), runs)
        self.assertEqual(runs, LATE)

    def test_great_numbers(self):
        runs = {name: [(GREAT + hour, task, work) for hour, task, work in rows] for name, rows in LATE.items()}
        self.assertIs(shows_none(crowd(), runs), True)

    def test_against_the_plain_machine(self):
        chance = random.Random(20)
        shown = 0
        for _ in range(500):
            rows = [task(name, chance.randint(3, 6), chance.randint(1, 4), wait=chance.choice([0, 0, 1]))
                    for name in "abc"[:chance.randint(1, 3)]]
            some = chance.sample(rows, chance.randint(1, len(rows)))
            runs = {}
            for each in some:
                runs[each.name] = [(chance.choice([0, 0, 1]), other.name, other.most - chance.choice([0, 0, 0, 1]))
                                   for other in some if other.most > 1 or chance.random() < 0.8]
            told = True
            for each in some:
                last = ranked([other for other in some if other.name != each.name] + [each])
                if any(row[2] < 1 for row in runs[each.name]) or not is_late(last, runs[each.name], each.name):
                    told = False
            shown += told
            self.assertIs(shows_none(rows, runs), told)
        self.assertGreater(shown, 30)


if __name__ == "__main__":
    unittest.main()
