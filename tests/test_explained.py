"""[23], [24] and of [4] what it says of each job's time parted, and of whoever is late."""

import random
import unittest

from plain import PlainRun, plain_blamed, plain_parts, plain_until, random_plan, random_wishes
from promptworks.bounds import is_kept
from promptworks.errors import NoJob, NoTask
from promptworks.explained import blamed, parts
from promptworks.plans import Plan
from promptworks.tasks import Task
from promptworks.works import Works

GREAT = 10 ** 12


def ran(plan, wishes, hour, **doors):
    works = Works(plan, **doors)
    works.wishes(wishes)
    works.run(hour)
    return works


def three():
    """a and c share x: c may hold a and b back."""
    return Plan([Task("a", rank=1, gap=10, most=3, wait=4, sections=[(0, 1, "x")]), Task("b", rank=2, gap=20, most=4),
                 Task("c", rank=3, gap=60, most=9, wait=2, sections=[(1, 5, "x")])])


class TestParts(unittest.TestCase):
    def test_who_had_its_time(self):
        works = ran(three(), [(0, "c", 9), (2, "a", 3), (3, "b", 4), (12, "a", 2)], 40)
        self.assertEqual(works.trace(), [(0, 6, "c", 0), (6, 9, "a", 0), (9, 12, "b", 0), (12, 14, "a", 1),
                                         (14, 15, "b", 0), (15, 18, "c", 0)])
        self.assertEqual(parts(works, "a", 0), {"held": 4, "own": 3, ("c", 0): 4})
        self.assertEqual(parts(works, "b", 0), {"own": 4, ("a", 0): 3, ("a", 1): 2, ("c", 0): 3})
        self.assertEqual(parts(works, "c", 0), {"held": 2, "own": 9, ("a", 0): 3, ("a", 1): 2, ("b", 0): 4})
        self.assertEqual(parts(works=works, task="a", number=1), {"held": 4, "own": 2})

    def test_at_the_first_and_the_last_tick(self):
        works = Works(three())
        works.wishes([(0, "c", 9), (2, "a", 3), (3, "b", 4), (12, "a", 2)])
        told = {3: {("c", 0): 0}, 4: {("c", 0): 1}, 6: {("c", 0): 3}, 7: {("c", 0): 3, ("a", 0): 1},
                9: {("c", 0): 3, ("a", 0): 3}, 10: {("c", 0): 3, ("a", 0): 3, "own": 1},
                14: {("c", 0): 3, ("a", 0): 3, ("a", 1): 2, "own": 3},
                15: {("c", 0): 3, ("a", 0): 3, ("a", 1): 2, "own": 4}, 16: {("c", 0): 3, ("a", 0): 3, ("a", 1): 2, "own": 4}}
        for hour, row in told.items():
            works.run(hour)
            if hour == 3:
                with self.assertRaises(NoJob):
                    parts(works, "b", 0)
            else:
                self.assertEqual(parts(works, "b", 0), row, hour)

    def test_elder_jobs_of_its_task(self):
        plan = Plan([Task("a", rank=1, gap=5, most=4, wait=20), Task("b", rank=2, gap=90, most=2)])
        works = ran(plan, [(0, "a", 4), (0, "a", 4), (2, "a", 1), (0, "b", 1)], 30)
        self.assertEqual([row[2:4] + row[6:] for row in works.jobs()],
                         [(-20, 0, 4), (-15, 0, 8), (-10, 2, 9), (0, 0, 10)])
        self.assertEqual(parts(works, "a", 1), {"held": 15, "elder": 4, "own": 4})
        self.assertEqual(parts(works, "a", 2), {"held": 12, "elder": 6, "own": 1})
        self.assertEqual(parts(works, "b", 0), {"own": 1, ("a", 0): 4, ("a", 1): 4, ("a", 2): 1})

    def test_a_job_that_comes_early_by_an_open_gate(self):
        plan = Plan([Task("a", rank=1, gap=10, most=3), Task("b", rank=2, gap=90, most=9)])
        wishes = [(0, "b", 9), (1, "a", 3), (2, "a", 2)]
        works = ran(plan, wishes, 30, gate=False)
        self.assertEqual(works.jobs()[1], ("a", 1, 11, 2, 2, 2, 6))
        self.assertEqual(parts(works, "a", 1), {"elder": 2, "own": 2})
        works = ran(plan, wishes, 5, gate=False)
        self.assertEqual(parts(works, "a", 1), {"elder": 2, "own": 1})
        works = ran(plan, wishes, 30)
        self.assertEqual(parts(works, "a", 1), {"own": 2})

    def test_a_time_that_doesnt_begin_below_now(self):
        plan = Plan([Task("a", rank=1, gap=10, most=3)])
        works = Works(plan)
        works.wishes([(0, "a", 3), (2, "a", 2)])
        for hour, told in [(3, {}), (9, {}), (10, {}), (11, {"own": 1}), (12, {"own": 2}), (20, {"own": 2})]:
            works.run(hour)
            self.assertEqual(parts(works, "a", 1), told, hour)

    def test_up_to_now(self):
        plan = Plan([Task("a", rank=1, gap=10, most=3), Task("b", rank=2, gap=90, most=9, wait=3)])
        works = Works(plan)
        works.wishes([(4, "b", 9), (5, "a", 3)])
        for hour, told in [(5, {"held": 3, "own": 1}), (6, {"held": 3, "own": 1, ("a", 0): 1}),
                           (9, {"held": 3, "own": 2, ("a", 0): 3})]:
            works.run(hour)
            self.assertEqual(parts(works, "b", 0), told)

    def test_refused(self):
        works = ran(three(), [(0, "c", 9), (2, "a", 3), (20, "a", 1)], 20)
        for ask in [parts, blamed]:
            for name, number, error, fields in [
                    ("z", 0, NoTask, {"name": "z"}), ("", -1, NoTask, {"name": ""}), ("x", 0, NoTask, {"name": "x"}),
                    ("a", 1, NoJob, {"name": "a", "number": 1}), ("a", -1, NoJob, {"name": "a", "number": -1}),
                    ("b", 0, NoJob, {"name": "b", "number": 0}), ("c", GREAT, NoJob, {"name": "c", "number": GREAT})]:
                with self.assertRaises(error) as caught:
                    ask(works, name, number)
                self.assertEqual(vars(caught.exception), fields)
        works.run(21)
        self.assertEqual((parts(works, "a", 1), blamed(works, "a", 1)), ({"held": 4, "own": 1}, []))

    def test_told_things_are_new(self):
        works = ran(three(), [(0, "c", 9), (2, "a", 3)], 40, gate=False, guard=False)
        told = parts(works, "a", 0)
        told.clear()
        self.assertEqual(parts(works, "a", 0), {"held": 4, "own": 3, ("c", 0): 4})
        works = ran(three(), [(0, "a", 9)], 40, guard=False)
        blamed(works, "a", 0).clear()
        self.assertEqual(blamed(works, "a", 0), [("a", 0, "long")])

    def test_great_numbers(self):
        most = GREAT // 4
        plan = Plan([Task("a", rank=1, gap=GREAT, most=most, sections=[(5, most - 6, "x")]),
                     Task("b", rank=2, gap=GREAT, most=most, wait=GREAT, sections=[(7, most - 8, "x")])])
        works = ran(plan, [(0, "b", GREAT), (8, "a", most)], 3 * GREAT, guard=False)
        self.assertEqual(parts(works, "a", 0), {("b", 0): most - 9, "own": most})
        self.assertEqual(parts(works, "b", 0), {"held": GREAT, "own": GREAT, ("a", 0): most})
        self.assertEqual(blamed(works, "b", 0), [("b", 0, "long")])
        self.assertEqual(blamed(works, "a", 0), [])


class TestBlamed(unittest.TestCase):
    def plan(self):
        return Plan([Task("a", rank=1, gap=10, most=3), Task("b", rank=2, gap=20, most=6),
                     Task("c", rank=3, gap=40, most=9)])

    def test_who_came_early(self):
        works = ran(self.plan(), [(0, "a", 3), (1, "a", 3), (2, "a", 3), (0, "b", 6)], 30, gate=False)
        self.assertEqual(works.jobs()[3], ("b", 0, 0, 0, 6, 6, 15))
        self.assertEqual(blamed(works, "b", 0), [("a", 1, "early"), ("a", 2, "early")])
        self.assertEqual(blamed(works, "a", 0), [])
        self.assertEqual(blamed(works, "a", 1), [("a", 1, "early")])
        self.assertEqual(blamed(works, task="a", number=2), [("a", 1, "early"), ("a", 2, "early")])

    def test_who_worked_too_long(self):
        works = ran(self.plan(), [(0, "a", 8), (0, "b", 7), (0, "c", 9)], 60, guard=False)
        self.assertEqual(blamed(works, "a", 0), [("a", 0, "long")])
        self.assertEqual(blamed(works, "b", 0), [("a", 0, "long"), ("b", 0, "long")])
        self.assertEqual(blamed(works, "c", 0), [("a", 0, "long"), ("b", 0, "long")])

    def test_both_early_ahead_of_long(self):
        works = ran(self.plan(), [(0, "a", 3), (2, "a", 5), (1, "b", 6)], 30, gate=False, guard=False)
        self.assertEqual(blamed(works, "b", 0), [("a", 1, "early"), ("a", 1, "long")])

    def test_a_job_that_has_just_worked_its_most_and_goes_on(self):
        for work, told in [(3, []), (4, [("a", 0, "long")]), (9, [("a", 0, "long")])]:
            works = Works(self.plan(), guard=False)
            works.wishes([(0, "a", work), (0, "b", 6)])
            works.run(2)
            self.assertEqual(blamed(works, "b", 0), [])
            works.run(3)
            self.assertEqual(blamed(works, "b", 0), told)
            works.run(30)
            self.assertEqual(blamed(works, "b", 0), told)

    def test_shut_ones_leave_none_to_blame(self):
        wishes = [(0, "a", 9), (1, "a", 9), (0, "b", 9), (3, "b", 9)]
        works = ran(self.plan(), wishes, 60)
        self.assertEqual([blamed(works, *row[:2]) for row in works.jobs()], [[]] * 4)
        works = ran(self.plan(), wishes, 60, gate=False)
        self.assertEqual([blamed(works, *row[:2]) for row in works.jobs()],
                         [[], [("a", 1, "early")], [("a", 1, "early")], [("a", 1, "early"), ("b", 1, "early")]])
        works = ran(self.plan(), wishes, 60, guard=False)
        self.assertEqual([blamed(works, *row[:2]) for row in works.jobs()],
                         [[("a", 0, "long")], [("a", 1, "long")], [("a", 0, "long"), ("a", 1, "long"), ("b", 0, "long")],
                          [("a", 0, "long"), ("a", 1, "long"), ("b", 0, "long"), ("b", 1, "long")]])

    def test_the_stretch_goes_back_to_where_nobody_was_short(self):
        # a is at its end at 4, where b begins: the stretch of b goes back to there alone; c's goes on.
        for hour, told in [(3, [("a", 0, "long")]), (4, []), (5, [])]:
            works = ran(self.plan(), [(0, "a", 4), (hour, "b", 6)], 60, guard=False)
            self.assertEqual(blamed(works, "b", 0), told, hour)
        works = ran(self.plan(), [(0, "a", 4), (3, "b", 6), (8, "c", 1)], 60, guard=False)
        self.assertEqual(blamed(works, "c", 0), [("a", 0, "long")])
        # Less urgent ones at work don't lengthen it.
        works = ran(self.plan(), [(0, "a", 4), (3, "c", 6), (6, "b", 1)], 60, guard=False)
        self.assertEqual(blamed(works, "b", 0), [])

    def test_released_from_its_begin_on_ahead_of_the_end(self):
        wishes = [(0, "a", 4), (4, "b", 6), (9, "a", 4)]
        # a comes in at 9, ahead of b's end at 14; at 10, b's end, it is not blamed.
        works = ran(self.plan(), wishes, 60, gate=False, guard=False)
        self.assertEqual(blamed(works, "b", 0), [("a", 1, "early"), ("a", 1, "long")])
        works = ran(self.plan(), wishes[:2] + [(10, "a", 4)], 60, gate=False, guard=False)
        self.assertEqual(works.jobs()[2][6], 10)
        self.assertEqual(blamed(works, "b", 0), [])

    def test_not_of_less_urgent_ones_nor_later_ones_of_its_task(self):
        works = ran(self.plan(), [(0, "c", 20), (1, "a", 3), (2, "a", 9), (1, "b", 4)], 60, gate=False, guard=False)
        self.assertEqual(blamed(works, "a", 0), [])
        self.assertEqual(blamed(works, "a", 1), [("a", 1, "early"), ("a", 1, "long")])

    def test_what_is_worked_by_now_though_behind_its_end(self):
        # b ends amid its section with a waiting; it is blamed once it has worked its most.
        plan = Plan([Task("a", rank=1, gap=50, most=2, sections=[(0, 1, "x")]),
                     Task("b", rank=2, gap=50, most=9, sections=[(0, 8, "x")])])
        works = Works(plan, guard=False)
        works.wishes([(0, "b", 4), (2, "a", 5)])
        for hour, told in [(4, []), (5, []), (6, [("a", 0, "long")]), (30, [("a", 0, "long")])]:
            works.run(hour)
            self.assertEqual(blamed(works, "b", 0), told, hour)

    def test_none_of_one_whose_release_isnt_below_now(self):
        plan = Plan([Task("a", rank=1, gap=10, most=3)])
        works = Works(plan, guard=False)
        works.wishes([(0, "a", 12), (2, "a", 2)])
        for hour, told in [(3, []), (10, []), (11, [("a", 0, "long")]), (30, [("a", 0, "long")])]:
            works.run(hour)
            self.assertEqual(blamed(works, "a", 1), told, hour)


class TestAgainstThePlainMachine(unittest.TestCase):
    def test_parts_and_blame(self):
        chance = random.Random(24)
        seen = {"held": 0, "elder": 0, "early": 0, "long": 0, "less": 0}
        for _ in range(250):
            plan = random_plan(chance, most=9, gaps=(6, 30), locks=("x",))
            wishes = random_wishes(chance, plan)
            hour = chance.randint(0, 80)
            for gate in [True, False]:
                for guard in [True, False]:
                    works = ran(plan, wishes, hour, gate=gate, guard=guard)
                    plain = PlainRun(plan.tasks(), wishes, hour, gate, guard)
                    for job in plain.known:
                        told = parts(works, *job.told())
                        self.assertEqual(told, plain_parts(plain, *job.told()))
                        begin = min(job.arrival, job.release)
                        self.assertEqual(sum(told.values()), max(0, plain_until(plain, job) - begin))
                        blame = blamed(works, *job.told())
                        self.assertEqual(blame, plain_blamed(plain, gate, guard, *job.told()))
                        for key in list(told) + [row[2] for row in blame]:
                            seen[key if key in seen else "less"] += key in seen or self.is_less(plan, key, job)
        self.assertGreater(min(seen.values()), 20)

    def is_less(self, plan, key, job):
        return type(key) is tuple and plan.task(key[0]).rank > job.task.rank

    def test_one_less_urgent_job_at_most_and_no_more_than_was_told(self):
        chance = random.Random(25)
        held = 0
        for _ in range(600):
            plan = random_plan(chance, many=5, most=8, gaps=(10, 40), locks=("x",))
            wishes = random_wishes(chance, plan, many=24)
            works = ran(plan, wishes, 200)
            for name, number in [row[:2] for row in works.jobs()]:
                rank = plan.task(name).rank
                less = [ticks for key, ticks in parts(works, name, number).items()
                        if type(key) is tuple and plan.task(key[0]).rank > rank]
                self.assertLessEqual(len(less), 1)
                self.assertLessEqual(sum(less), plan.held_back(name))
                held += sum(less) > 0 and sum(less) == plan.held_back(name)
        self.assertGreater(held, 5)

    def test_some_are_blamed_for_each_late_job_of_a_kept_plan(self):
        chance = random.Random(26)
        late = 0
        plans = 0
        while plans < 400:
            plan = random_plan(chance, gaps=(8, 30), waits=(0, 0, 2))
            if not is_kept(plan):
                continue
            plans += 1
            tasks = plan.tasks()
            wishes = []
            for _ in range(chance.randint(4, 20)):
                task = chance.choice(tasks)
                wishes.append((chance.randrange(40), task.name, chance.choice([1, task.most, task.most + 4])))
            for gate, guard in [(True, True), (True, False), (False, True), (False, False)]:
                works = ran(plan, wishes, chance.choice([40, 300]), gate=gate, guard=guard)
                for name, number in works.late():
                    late += 1
                    told = blamed(works, name, number)
                    self.assertTrue(told)
                    self.assertFalse(gate and guard)
                    words = ["early"] * (not gate) + ["long"] * (not guard)
                    self.assertTrue(all(row[2] in words for row in told))
        self.assertGreater(late, 300)


if __name__ == "__main__":
    unittest.main()
