"""[10] Tasks, and of [2] and [3] what holds of them."""

import unittest

from plain import odd_things
from promptworks.errors import BadTask
from promptworks.tasks import Task

GOOD = {"name": "a", "rank": 2, "gap": 20, "most": 12, "due": 15, "wait": 3, "sections": ((1, 4, "x"),)}
PARTS = ["name", "rank", "gap", "most", "due", "wait", "sections"]


def made(**parts):
    told = {**GOOD, **parts}
    return Task(told.pop("name"), **told)


class TestTask(unittest.TestCase):
    def refused(self, part, **parts):
        with self.assertRaises(BadTask, msg=parts) as caught:
            made(**parts)
        self.assertEqual(caught.exception.part, part, parts)

    def test_tells_its_things(self):
        task = made()
        self.assertEqual([getattr(task, part) for part in PARTS], [GOOD[part] for part in PARTS])
        self.assertEqual(str(task), "a rank 2")
        self.assertEqual(str(made(name="pump", rank=10 ** 12)), "pump rank 1000000000000")

    def test_what_is_not_told(self):
        task = Task("a", rank=1, gap=7, most=2)
        self.assertEqual((task.due, task.wait, task.sections), (7, 0, ()))
        self.assertEqual(Task("a", rank=1, gap=7, most=2, due=None).due, 7)
        self.assertEqual(Task("a", rank=1, gap=7, most=2, due=7, wait=0, sections=[]), task)

    def test_name_by_its_name_and_the_others_by_names_alone(self):
        self.assertEqual(Task(name="a", rank=1, gap=7, most=2).name, "a")
        with self.assertRaises(TypeError):
            Task("a", 1, rank=1, gap=7, most=2)

    def test_edges_that_are_let_in(self):
        for parts in [{"name": "z"}, {"name": "abcdefghijkl"}, {"name": "az"}, {"rank": 1}, {"rank": 10 ** 12},
                      {"due": 20}, {"due": 1}, {"due": None}, {"wait": 0}, {"wait": 10 ** 12},
                      {"gap": 15}, {"gap": 10 ** 12}, {"most": 6}, {"most": 10 ** 12},
                      {"most": 1, "sections": ()}, {"gap": 1, "due": 1, "most": 12},
                      {"sections": ((0, 11, "x"),)}, {"sections": ((10, 1, "abcdefghijkl"),)}]:
            with self.subTest(parts):
                task = made(**parts)
                for part in parts:
                    if part != "due" or parts["due"] is not None:
                        self.assertEqual(getattr(task, part), parts[part])

    def test_numbers_out_of_place(self):
        for part, wrong in [("rank", 0), ("rank", -1), ("gap", 0), ("gap", -5), ("most", 0), ("most", -1),
                            ("due", 0), ("due", -1), ("due", 21), ("wait", -1), ("name", ""),
                            ("name", "abcdefghijklm"), ("name", "Ab"), ("name", "a1"), ("name", "a "),
                            ("name", "a_b"), ("name", "a\n"), ("name", "\u00e4"), ("name", "\u0430")]:
            self.refused(part, **{part: wrong})

    def test_odd_things_in_the_place_of_each_part(self):
        fine = {"wait": [0], "sections": [[], ()]}
        for part in PARTS:
            for odd in odd_things():
                if part == "due" and odd is None:
                    continue
                if any(odd is not True and odd is not False and type(odd) is type(good) and odd == good
                       for good in fine.get(part, [])):
                    continue
                self.refused(part, **{part: odd})

    def test_truths_are_no_numbers(self):
        for part in ["rank", "gap", "most", "due", "wait"]:
            self.refused(part, **{part: True})
            self.refused(part, **{part: False})
        for sections in [((True, 2, "x"),), ((False, 2, "x"),), ((1, True, "x"),), ((1, 2, True),)]:
            self.refused("sections", sections=sections)

    def test_of_two_wrong_parts_the_first_is_named(self):
        wrong = {"name": "A", "rank": 0, "gap": 0, "most": 0, "due": 0, "wait": -1, "sections": None}
        for place, part in enumerate(PARTS):
            for later in PARTS[place + 1:]:
                self.refused(part, **{part: wrong[part], later: wrong[later]})
        self.refused("name", **wrong)
        self.refused("gap", gap=0, due=5)
        self.refused("most", most="x", sections=((1, 4, "x"),))

    def test_the_due_is_at_most_the_gap(self):
        self.assertEqual(made(gap=15, due=15).due, 15)
        self.refused("due", gap=14, due=15)
        self.refused("due", gap=15, due=16)


class TestSections(unittest.TestCase):
    def fine(self, *sections, most=12):
        self.assertEqual(sorted(made(most=most, sections=list(sections)).sections), sorted(sections))
        self.assertEqual(sorted(made(most=most, sections=sections[::-1]).sections), sorted(sections))

    def wrong(self, *sections, most=12):
        for rows in [sections, sections[::-1], list(sections)]:
            with self.assertRaises(BadTask, msg=rows) as caught:
                made(most=most, sections=rows)
            self.assertEqual(caught.exception.part, "sections")

    def test_each_ends_below_most(self):
        self.fine((0, 11, "x"))
        self.fine((10, 1, "x"))
        self.wrong((0, 12, "x"))
        self.wrong((11, 1, "x"))
        self.wrong((12, 1, "x"))
        self.wrong((0, 1, "x"), most=1)
        self.fine((0, 1, "x"), most=2)

    def test_starts_and_lengths(self):
        self.wrong((-1, 2, "x"))
        self.wrong((1, 0, "x"))
        self.wrong((1, -1, "x"))
        self.wrong((0, 0, "x"))

    def test_touching_ones_are_apart(self):
        self.fine((0, 4, "x"), (4, 3, "y"))
        self.fine((0, 4, "x"), (4, 3, "x"))
        self.fine((0, 1, "x"), (1, 1, "x"))
        self.fine((0, 2, "x"), (5, 2, "x"))

    def test_one_within_the_other(self):
        self.fine((0, 8, "x"), (2, 3, "y"))
        self.fine((0, 8, "x"), (0, 3, "y"))
        self.fine((0, 8, "x"), (5, 3, "y"))
        self.fine((1, 4, "x"), (1, 4, "y"))
        self.fine((0, 9, "x"), (1, 6, "y"), (2, 2, "z"), (4, 3, "x" * 2))
        self.wrong((0, 8, "x"), (2, 3, "x"))
        self.wrong((0, 8, "x"), (0, 3, "x"))
        self.wrong((0, 8, "x"), (5, 3, "x"))
        self.wrong((1, 4, "x"), (1, 4, "x"))
        self.wrong((0, 9, "x"), (1, 6, "y"), (2, 2, "x"))

    def test_ones_that_cross(self):
        self.wrong((0, 5, "x"), (4, 3, "y"))
        self.wrong((0, 5, "x"), (4, 3, "x"))
        self.wrong((0, 5, "x"), (1, 5, "y"))
        self.wrong((0, 2, "z"), (3, 5, "x"), (7, 2, "y"))

    def test_things_that_are_no_sections(self):
        for rows in [[[1, 4, "x"]], [(1, 4)], [(1, 4, "x", 0)], [("x", 1, 4)], [(1, 4, "X")], [(1, 4, "")],
                     [(1, 4, "abcdefghijklm")], [(1, 4, None)], [(1.0, 4, "x")], [(1, 4.0, "x")], [()],
                     [(None, 4, "x")], [(1, None, "x")], [(1, 4, b"x")], [(1, 4, ["x"])], ["abc"], "abc", (1, 4, "x"),
                     {(1, 4, "x")}, {(1, 4, "x"): 1}, iter([(1, 4, "x")]), [(1, 4, "x"), None], range(2)]:
            with self.assertRaises(BadTask, msg=rows) as caught:
                made(sections=rows)
            self.assertEqual(caught.exception.part, "sections")
        for odd in odd_things():
            self.wrong((1, 4, "x"), odd)
            self.wrong((odd, odd, odd))
            self.wrong((1, 4, odd))
            self.wrong((1, odd, "x"))
            if odd is True or odd is False or type(odd) is not int or odd < 0:
                self.wrong((odd, 4, "x"))

    def test_told_as_they_are_written(self):
        rows = [(6, 1, "b"), (2, 1, "a"), (0, 8, "y"), (0, 8, "x"), (2, 4, "c"), (0, 9, "z")]
        self.assertEqual(made(sections=rows).sections,
                         ((0, 9, "z"), (0, 8, "x"), (0, 8, "y"), (2, 4, "c"), (2, 1, "a"), (6, 1, "b")))
        rows = [(10, 1, "a"), (9, 1, "b"), (0, 2, "a"), (2, 7, "c"), (2, 3, "b"), (2, 7, "a")]
        self.assertEqual(made(sections=rows).sections,
                         ((0, 2, "a"), (2, 7, "a"), (2, 7, "c"), (2, 3, "b"), (9, 1, "b"), (10, 1, "a")))

    def test_told_as_a_tuple_of_tuples(self):
        for rows in [[(1, 4, "x")], ((1, 4, "x"),)]:
            told = made(sections=rows).sections
            self.assertIs(type(told), tuple)
            self.assertEqual(told, ((1, 4, "x"),))

    def test_what_is_kept_is_a_copy(self):
        rows = [(5, 2, "y"), (1, 4, "x")]
        task = made(sections=rows)
        self.assertEqual(rows, [(5, 2, "y"), (1, 4, "x")])
        rows.append((0, 1, "z"))
        self.assertEqual(task.sections, ((1, 4, "x"), (5, 2, "y")))


class TestEqual(unittest.TestCase):
    def test_of_like_things(self):
        self.assertTrue(made() == made())
        self.assertFalse(made() != made())
        one = made(sections=[(1, 4, "x"), (6, 2, "y"), (1, 4, "z")])
        other = made(sections=((6, 2, "y"), (1, 4, "z"), (1, 4, "x")))
        self.assertTrue(one == other)

    def test_each_thing_counts(self):
        for parts in [{"name": "b"}, {"rank": 3}, {"gap": 21}, {"most": 13}, {"due": 14}, {"due": None},
                      {"wait": 2}, {"sections": ()}, {"sections": ((1, 4, "y"),)}, {"sections": ((1, 3, "x"),)}]:
            self.assertFalse(made() == made(**parts), parts)
            self.assertTrue(made() != made(**parts), parts)

    def test_to_nothing_else(self):
        class Like:
            def __init__(self):
                vars(self).update(GOOD)

            def __eq__(self, other):
                return True

        for odd in [None, 0, "a", "a rank 2", (), [made()], GOOD, Like(), object(), Task, True]:
            self.assertFalse(made() == odd, odd)
            self.assertTrue(made() != odd, odd)


if __name__ == "__main__":
    unittest.main()
