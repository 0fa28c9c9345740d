"""The refusals: each straight under Python's class, with its fields."""

import unittest

from promptworks import errors

FIELDS = {
    "BadTask": (ValueError, ("part",)),
    "BadWork": (ValueError, ("work",)),
    "BadChain": (ValueError, ("place",)),
    "Sections": (ValueError, ("name",)),
    "Unread": (ValueError, ("row",)),
    "NoAsk": (ValueError, ("row",)),
    "Every": (ValueError, ("every",)),
    "Waits": (ValueError, ("name",)),
    "NoTask": (KeyError, ("name",)),
    "NoLock": (KeyError, ("lock",)),
    "NoPlan": (KeyError, ("name",)),
    "NoTimer": (KeyError, ("name",)),
    "Twice": (KeyError, ("name",)),
    "Past": (IndexError, ("hour",)),
    "NoJob": (IndexError, ("name", "number")),
    "Shared": (LookupError, ("rank",)),
    "NoBound": (ArithmeticError, ("name",)),
    "NotKept": (ArithmeticError, ()),
    "NoWorks": (RuntimeError, ()),
}


class TestErrors(unittest.TestCase):
    def test_each_stands_straight_under_its_class(self):
        for name, (base, _) in FIELDS.items():
            with self.subTest(name):
                self.assertEqual(getattr(errors, name).__bases__, (base,))
                self.assertEqual(getattr(errors, name).__module__, "promptworks.errors")

    def test_each_has_its_fields(self):
        for name, (_, fields) in FIELDS.items():
            with self.subTest(name):
                told = getattr(errors, name)(*[f"the {field}" for field in fields])
                self.assertEqual(vars(told), {field: f"the {field}" for field in fields})

    def test_there_are_no_others(self):
        classes = [name for name, thing in vars(errors).items() if isinstance(thing, type)]
        self.assertEqual(sorted(classes), sorted(FIELDS))


if __name__ == "__main__":
    unittest.main()
