"""Point 2: machines, and BadMachine with its `row`."""

import unittest

from pressedtables.errors import BadMachine
from pressedtables.plain import apart, run
from tests.refusals import refused

GOOD_ROW = (0, None)
NO_ROWS = {
    "a list": [0, None],
    "None": None,
    "a number": 0,
    "a text": "00",
    "empty": (),
    "too short": (0,),
    "too long": (0, None, 0),
    "no such room": (None, 5),
    "a room far off": (99, None),
    "True": (True, None),
    "False": (None, False),
    "below 0": (-1, None),
    "a text as room": ("0", None),
    "a tuple as room": (None, (0,)),
    "a list as room": ([], None),
}


def row_of(machine):
    return refused(BadMachine, "row", run, machine, [])


def table_with(count, bad):
    """A table of so many rows, all good but those of the dict."""
    return tuple(bad.get(at, GOOD_ROW) for at in range(count))


class TestMachinesLetBy(unittest.TestCase):
    def let_by(self, machine, told):
        self.assertEqual(run(machine, []), ([0], told))
        self.assertIsNone(apart(machine, machine))

    def test_one_letter_and_thirty(self):
        self.let_by((1, ((0,),), ()), "bad")
        self.let_by((30, ((0,) * 30,), ()), "bad")

    def test_one_room_and_forty(self):
        self.let_by((2, (GOOD_ROW,), (0,)), "good")
        self.let_by((2, ((39, 0),) * 40, (39,)), "bad")

    def test_no_finals_and_all_finals(self):
        table = ((0, 1), (2, None), (0, 0))
        self.let_by((2, table, ()), "bad")
        self.let_by((2, table, (0, 1, 2)), "good")
        self.let_by((2, table_with(40, {}), tuple(range(40))), "good")

    def test_rows_of_nones(self):
        self.let_by((3, ((None,) * 3,), ()), "bad")
        self.let_by((30, ((None,) * 30,) * 40, (0,)), "good")


class TestMachinesRefused(unittest.TestCase):
    def test_no_tuple_of_three(self):
        table = (GOOD_ROW,)
        for machine in (None, 3, True, "abc", (), (2,), (2, table), (2, table, (), ()), [2, table, ()]):
            with self.subTest(machine):
                self.assertEqual(row_of(machine), 0)

    def test_letters_that_are_none(self):
        for letters in (0, 31, -1, True, False, None, "2", (2,), [2], 1000):
            for count in (1, 3):
                with self.subTest(letters, count=count):
                    self.assertEqual(row_of((letters, table_with(count, {}), ())), 0)

    def test_letters_are_refused_though_rows_have_as_many(self):
        self.assertEqual(row_of((31, ((0,) * 31,), ())), 0)
        self.assertEqual(row_of((0, ((), ()), ())), 0)
        self.assertEqual(row_of((True, ((0,), (0,)), ())), 0)

    def test_a_table_that_is_none(self):
        for table in (None, (), [], [GOOD_ROW], [GOOD_ROW, GOOD_ROW], 2, True, "01", ""):
            with self.subTest(table):
                self.assertEqual(row_of((2, table, ())), 0)

    def test_rows_that_can_not_be(self):
        for name, row in NO_ROWS.items():
            for at in (0, 2, 4):
                with self.subTest(name, at=at):
                    self.assertEqual(row_of((2, table_with(5, {at: row}), ())), at)

    def test_the_last_of_forty_rows(self):
        for name, row in NO_ROWS.items():
            if name != "no such room":
                with self.subTest(name):
                    self.assertEqual(row_of((2, table_with(40, {39: row}), ())), 39)

    def test_a_next_room_is_one_of_the_table(self):
        for count in (1, 2, 39, 40):
            with self.subTest(count):
                self.assertEqual(row_of((2, table_with(count, {count - 1: (0, count)}), ())), count - 1)
                self.assertEqual(run((2, table_with(count, {count - 1: (0, count - 1)}), ()), []), ([0], "bad"))

    def test_the_wrong_place_in_a_row_does_not_matter(self):
        for letter in (0, 3, 29):
            row = [0] * 30
            row[letter] = 3
            with self.subTest(letter):
                self.assertEqual(row_of((30, ((0,) * 30, tuple(row), (0,) * 30), ())), 1)

    def test_the_first_of_several_rows(self):
        self.assertEqual(row_of((2, table_with(5, {1: (0,), 3: None}), ())), 1)
        self.assertEqual(row_of((2, table_with(5, {4: (9, 9), 2: (0, True)}), ())), 2)
        self.assertEqual(row_of((2, (None,) * 5, ())), 0)

    def test_a_forty_first_row(self):
        for count in (41, 42, 60):
            with self.subTest(count):
                self.assertEqual(row_of((2, table_with(count, {}), ())), 40)
                self.assertEqual(row_of((2, table_with(count, {40: None}), ())), 40)

    def test_an_earlier_row_than_the_forty_first(self):
        for at in (0, 20, 39):
            for row in ((0,), None, (0, 99), (True, 0)):
                with self.subTest(at, row=row):
                    self.assertEqual(row_of((2, table_with(41, {at: row}), ())), at)

    def test_there_is_no_fortieth_room_behind_thirty_nine(self):
        self.assertEqual(row_of((2, table_with(41, {7: (40, 0)}), ())), 7)
        self.assertEqual(row_of((2, table_with(41, {7: (39, 0)}), ())), 40)

    def test_finals(self):
        bad = {
            "None": None,
            "a list": [0],
            "a number": 0,
            "a text": "",
            "falling": (1, 0),
            "falling at last": (0, 2, 1),
            "twice": (1, 1),
            "twice at last": (0, 1, 2, 2),
            "no such room": (0, 3),
            "below 0": (-1, 0),
            "True": (0, True),
            "False": (False,),
            "no number": (0, None),
            "a text as room": ("0",),
            "a tuple as room": ((0,),),
        }
        for name, finals in bad.items():
            with self.subTest(name):
                self.assertEqual(row_of((2, table_with(3, {}), finals)), 3)

    def test_finals_tell_the_count_of_rows(self):
        for count in (1, 2, 39, 40):
            for finals in (None, (count,), (0, 0)):
                with self.subTest(count, finals=finals):
                    self.assertEqual(row_of((2, table_with(count, {}), finals)), count)

    def test_rows_are_refused_ahead_of_finals(self):
        for at in (0, 2, 4):
            with self.subTest(at):
                self.assertEqual(row_of((2, table_with(5, {at: (0,)}), (7,))), at)
        self.assertEqual(row_of((2, table_with(41, {}), None)), 40)
        self.assertEqual(row_of((0, table_with(5, {}), None)), 0)
        self.assertEqual(row_of((2, (), None)), 0)


if __name__ == "__main__":
    unittest.main()
