"""The checker of [22]: whether rows are the trace of wishes."""

import random
import unittest

from plain import PlainRun, random_plan, random_wishes
from promptworks.errors import BadWork, NoTask
from promptworks.plans import Plan
from promptworks.tasks import Task
from promptworks.traces import first_wrong
from promptworks.works import Works

GREAT = 10 ** 12


def plan():
    return Plan([Task("a", rank=1, gap=10, most=3), Task("b", rank=2, gap=50, most=9)])


WISHES = [(0, "b", 9), (2, "a", 3), (12, "a", 1)]
ROWS = [(0, 2, "b", 0), (2, 5, "a", 0), (5, 12, "b", 0), (12, 13, "a", 1)]


class TestFirstWrong(unittest.TestCase):
    def test_the_trace(self):
        self.assertIsNone(first_wrong(plan(), WISHES, 40, ROWS))
        self.assertIsNone(first_wrong(plan(), tuple(WISHES[::-1]), 13, tuple(ROWS)))
        self.assertIsNone(first_wrong(plan=plan(), wishes=WISHES, hour=40, rows=ROWS, gate=True, guard=True))
        with self.assertRaises(TypeError):
            first_wrong(plan(), WISHES, 40, ROWS, True)

    def test_up_to_the_hour(self):
        self.assertIsNone(first_wrong(plan(), WISHES, 0, []))
        self.assertIsNone(first_wrong(plan(), WISHES, 1, [(0, 1, "b", 0)]))
        self.assertIsNone(first_wrong(plan(), WISHES, 2, ROWS[:1]))
        self.assertIsNone(first_wrong(plan(), WISHES, 4, [(0, 2, "b", 0), (2, 4, "a", 0)]))
        self.assertEqual(first_wrong(plan(), WISHES, 4, ROWS[:2]), 1)
        self.assertEqual(first_wrong(plan(), WISHES, 0, ROWS), 0)

    def test_rows_that_lack(self):
        for many in range(4):
            self.assertEqual(first_wrong(plan(), WISHES, 40, ROWS[:many]), many)

    def test_rows_that_are_too_many(self):
        self.assertEqual(first_wrong(plan(), WISHES, 40, ROWS + [(13, 14, "b", 0)]), 4)
        self.assertEqual(first_wrong(plan(), WISHES, 40, ROWS + ROWS), 4)
        self.assertEqual(first_wrong(plan(), [], 40, ROWS[:1]), 0)
        self.assertEqual(first_wrong(Plan(), [], 40, ROWS), 0)

    def test_rows_that_are_wrong_in_one_place(self):
        for place, row in enumerate(ROWS):
            start, end, task, number = row
            for wrong in [(start + 1, end, task, number), (start, end + 1, task, number), (start, end - 1, task, number),
                          (start, end, "ab".replace(task, ""), number), (start, end, task, number + 1),
                          (start, end, task, -1), (start, end, "nobody", number), (end, start, task, number)]:
                self.assertEqual(first_wrong(plan(), WISHES, 40, ROWS[:place] + [wrong] + ROWS[place + 1:]), place)
                self.assertEqual(first_wrong(plan(), WISHES, 40, ROWS[:place] + [wrong]), place)
            self.assertEqual(first_wrong(plan(), WISHES, 40, ROWS[:place] + ROWS[place + 1:]), place)

    def test_rows_that_are_cut(self):
        self.assertEqual(first_wrong(plan(), WISHES, 40, [(0, 1, "b", 0), (1, 2, "b", 0)] + ROWS[1:]), 0)
        self.assertEqual(first_wrong(plan(), WISHES, 40, ROWS[:2] + [(5, 9, "b", 0), (9, 12, "b", 0)] + ROWS[3:]), 2)

    def test_the_first_of_several(self):
        self.assertEqual(first_wrong(plan(), WISHES, 40, [ROWS[0], ROWS[2], ROWS[1], ROWS[3]]), 1)

    def test_gate_and_guard(self):
        wishes = [(0, "a", 5), (4, "a", 1)]
        told = {(True, True): [(0, 3, "a", 0), (10, 11, "a", 1)], (False, True): [(0, 3, "a", 0), (4, 5, "a", 1)],
                (True, False): [(0, 5, "a", 0), (10, 11, "a", 1)], (False, False): [(0, 5, "a", 0), (5, 6, "a", 1)]}
        for gate, guard in told:
            for doors, rows in told.items():
                place = first_wrong(plan(), wishes, 30, rows, gate=gate, guard=guard)
                self.assertEqual(place is None, doors == (gate, guard))
        self.assertIsNone(first_wrong(plan(), wishes, 30, told[(True, True)]))

    def test_wishes_for_the_hour_and_later_ones_dont_count(self):
        for wish in [(40, "a", 1), (41, "b", 3), (GREAT, "a", 9)]:
            self.assertIsNone(first_wrong(plan(), WISHES + [wish], 40, ROWS))
        self.assertEqual(first_wrong(plan(), WISHES + [(39, "a", 1)], 40, ROWS), 4)
        self.assertIsNone(first_wrong(plan(), WISHES + [(39, "a", 1)], 40, ROWS + [(39, 40, "a", 2)]))

    def test_refused_for_whatever_hours_they_are(self):
        for hour in [0, 5, 39, 40, 900]:
            for wrong, error, fields in [((hour, "z", 1), NoTask, {"name": "z"}), ((hour, "a", 0), BadWork, {"work": 0}),
                                         ((hour, "z", 0), NoTask, {"name": "z"}), ((hour, "a", -2), BadWork, {"work": -2})]:
                for rows in [ROWS, [], ROWS + ROWS]:
                    with self.assertRaises(error) as caught:
                        first_wrong(plan(), WISHES + [wrong, (hour, "y", -9)], 40, rows)
                    self.assertEqual(vars(caught.exception), fields)

    def test_changes_nothing_that_is_handed_in(self):
        wishes, rows = list(WISHES), list(ROWS)
        first_wrong(plan(), wishes, 40, rows)
        self.assertEqual((wishes, rows), (WISHES, ROWS))

    def test_great_numbers(self):
        most = GREAT // 2
        told = Plan([Task("a", rank=1, gap=GREAT, most=most), Task("b", rank=2, gap=GREAT, most=most, wait=GREAT)])
        wishes = [(0, "b", GREAT), (5, "a", most)]
        rows = [(0, 5, "b", 0), (5, most + 5, "a", 0), (most + 5, GREAT, "b", 0)]
        self.assertIsNone(first_wrong(told, wishes, GREAT, rows))
        self.assertIsNone(first_wrong(told, wishes, 2 * GREAT, rows))
        self.assertEqual(first_wrong(told, wishes, GREAT - 1, rows), 2)

    def test_against_the_plain_machine(self):
        chance = random.Random(23)
        for _ in range(200):
            told = random_plan(chance, most=9)
            wishes = random_wishes(chance, told)
            gate, guard = chance.choice([True, False]), chance.choice([True, False])
            hour = chance.randrange(70)
            rows = PlainRun(told.tasks(), wishes, hour, gate, guard).trace()
            self.assertIsNone(first_wrong(told, wishes, hour, rows, gate=gate, guard=guard))
            works = Works(told, gate=gate, guard=guard)
            works.wishes(wishes)
            works.run(hour)
            self.assertIsNone(first_wrong(told, wishes, hour, works.trace(), gate=gate, guard=guard))
            if rows:
                place = chance.randrange(len(rows))
                wrong = list(rows[place])
                wrong[chance.choice([0, 1, 3])] += 1
                self.assertEqual(first_wrong(told, wishes, hour, rows[:place] + [tuple(wrong)] + rows[place + 1:],
                                             gate=gate, guard=guard), place)


if __name__ == "__main__":
    unittest.main()
