"""The interface, pressedtables/errors.py."""

import unittest

from pressedtables import errors

VALUES = {
    "BadMachine": "row",
    "BadWord": "place",
    "Unlike": None,
    "BadWays": None,
    "BadRoom": None,
    "BadLetter": None,
    "BadFaults": "room",
    "BadDeep": None,
    "BadRows": "row",
    "TooMany": None,
    "BadPicture": "part",
    "BadLists": "room",
    "BadList": "number",
    "BadStep": "number",
    "BadText": "row",
}


class TestErrors(unittest.TestCase):
    def test_all_fifteen_stand_right_below_press_error(self):
        self.assertEqual(len(VALUES), 15)
        self.assertEqual(errors.PressError.__bases__, (ValueError,))
        for name in VALUES:
            with self.subTest(name):
                self.assertEqual(getattr(errors, name).__bases__, (errors.PressError,))

    def test_none_is_under_another_one(self):
        for name in VALUES:
            for other in VALUES:
                if name != other:
                    with self.subTest(name, other=other):
                        self.assertFalse(issubclass(getattr(errors, name), getattr(errors, other)))

    def test_there_is_no_refusal_that_is_not_listed(self):
        told = [name for name, held in vars(errors).items() if isinstance(held, type)]
        self.assertEqual(sorted(told), sorted([*VALUES, "PressError"]))

    def test_values_are_set_when_created(self):
        for name, value in VALUES.items():
            if value is not None:
                for number in (0, 7, 300):
                    with self.subTest(name, number=number):
                        error = getattr(errors, name)(number)
                        self.assertEqual(vars(error), {value: number})

    def test_each_is_caught_as_a_press_error_and_as_a_value_error(self):
        for name, value in VALUES.items():
            for kind in (errors.PressError, ValueError):
                with self.subTest(name, kind=kind):
                    with self.assertRaises(kind):
                        raise getattr(errors, name)(3 if value else "no")


if __name__ == "__main__":
    unittest.main()
