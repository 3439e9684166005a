"""Points 9 and 11: the error classes."""

import unittest

from leastcomplaint import errors

# Each class of the interface with its attributes, in this order.
CLASSES = {
    "BadRatio": ["bottom"],
    "BadText": [],
    "BadPlayers": [],
    "BadWorths": [],
    "BadAmounts": [],
    "BadOrder": [],
    "BadProgram": [],
    "BadShares": [],
    "BadName": ["name"],
    "BadLine": ["line"],
    "NoGroup": ["group"],
    "NoPlayer": ["player"],
    "NotDivision": [],
    "NotFamily": [],
    "NotCalm": [],
    "TooMany": ["players"],
    "Mismatch": [],
    "NameTaken": ["name"],
    "UnknownName": ["name"],
    "NothingToUndo": [],
    "NothingToRedo": [],
    "BadGains": [],
    "BadLinks": [],
}

ANY_VALUES = [0, -7, True, None, "", "a b", (0, 1), [1, [2]], {"a": 1}, 1.5, object(), 10 ** 5000]


class Classes(unittest.TestCase):
    def test_base_is_a_direct_subclass_of_value_error(self):
        self.assertEqual(errors.DivisionError.__bases__, (ValueError,))

    def test_all_are_direct_subclasses_of_division_error(self):
        for name in CLASSES:
            with self.subTest(name):
                self.assertEqual(getattr(errors, name).__bases__, (errors.DivisionError,))

    def test_there_are_no_others(self):
        made = {name for name, value in vars(errors).items() if isinstance(value, type)}
        self.assertEqual(made, {"DivisionError", *CLASSES})

    def test_names(self):
        for name in CLASSES:
            self.assertEqual(getattr(errors, name).__name__, name)


class Attributes(unittest.TestCase):
    def test_by_place(self):
        for name, attributes in CLASSES.items():
            for value in ANY_VALUES if attributes else [None]:
                with self.subTest(name):
                    error = getattr(errors, name)(*[value for _ in attributes])
                    self.assertEqual(list(vars(error)), attributes)
                    for attribute in attributes:
                        self.assertEqual(getattr(error, attribute), value)

    def test_by_name(self):
        for name, attributes in CLASSES.items():
            for value in ANY_VALUES if attributes else [None]:
                with self.subTest(name):
                    error = getattr(errors, name)(**{attribute: value for attribute in attributes})
                    for attribute in attributes:
                        self.assertEqual(getattr(error, attribute), value)

    def test_missing_attribute_is_refused(self):
        for name, attributes in CLASSES.items():
            if attributes:
                with self.subTest(name), self.assertRaises(TypeError):
                    getattr(errors, name)()

    def test_raised_and_caught(self):
        for name, attributes in CLASSES.items():
            for caught in (getattr(errors, name), errors.DivisionError, ValueError):
                with self.subTest(name), self.assertRaises(caught):
                    raise getattr(errors, name)(*attributes)

    def test_one_is_not_caught_as_another_one(self):
        for name, attributes in CLASSES.items():
            error = getattr(errors, name)(*attributes)
            same = [other for other in CLASSES if isinstance(error, getattr(errors, other))]
            self.assertEqual(same, [name])


if __name__ == "__main__":
    unittest.main()
