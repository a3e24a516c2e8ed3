"""Point 12: change."""

import random
import unittest

from pressedtables.errors import BadLetter, BadRoom
from pressedtables.judging import judged
from pressedtables.plain import run
from pressedtables.pressed import Pressed
from tests.machines import chance_machine
from tests.presses import SETS_OF_WAYS, PlainPress, chance_change, changed
from tests.refusals import refused

# Each room is like the one before it but for one letter: tree leads 2 on to 1, and 1 on to 0.
STAIRS = (4, ((1, 1, 1, 1), (1, 1, 1, 0), (1, 1, 0, 0)), (2,))
STAIRS_CELLS = ((0, 1),) * 4 + (None,) * 3 + ((1, 0), None, None, (2, 0))
# Letters of one column.
ALIKE = (3, ((1, 1, 1), (None, None, None), (0, 0, 0)), (0,))
NO_NUMBERS = (-1, True, False, "0", (0,), [0], [])


def drawn_machine(chance, letters, rooms):
    """Few columns, so that letters are put together, and rows that are nearly alike."""
    columns = [[chance.choice([None, *range(rooms)])] * rooms for _ in range(chance.randint(1, letters))]
    for column in columns:
        for _ in range(chance.randint(0, rooms)):
            column[chance.randrange(rooms)] = chance.choice([None, *range(rooms)])
    table = tuple(zip(*[chance.choice(columns) for _ in range(letters)]))
    return (letters, table, tuple(room for room in range(rooms) if chance.random() < 0.5))


class ChangeCase(unittest.TestCase):
    def changes(self, press, step, many, picture):
        self.assertEqual(press.change(*step), many)
        self.assertEqual(press.picture(), picture)

    def nothing_done(self, press, *step):
        before = press.picture()
        self.changes(press, step, 0, before)


class TestChange(ChangeCase):
    def test_what_is_told_already(self):
        for ways in SETS_OF_WAYS:
            for machine in (STAIRS, ALIKE):
                press = Pressed(machine, ways)
                for room, row in enumerate(machine[1]):
                    for letter, goal in enumerate(row):
                        self.nothing_done(press, room, letter, goal)

    def test_what_is_told_by_a_fault_already(self):
        press = Pressed(STAIRS, ("faults",))
        self.assertEqual(press.picture()[1], (None, 0, 1))
        self.nothing_done(press, 1, 0, 1)
        self.nothing_done(press, 2, 0, 1)
        self.nothing_done(press, 2, 3, 0)

    def test_what_is_told_of_a_row_of_nones_already(self):
        for ways in SETS_OF_WAYS:
            press = Pressed((2, ((0, None), (None, None)), ()), ways)
            self.nothing_done(press, 0, 1, None)
            self.nothing_done(press, 1, 0, None)
            self.nothing_done(press, 1, 1, None)

    def test_an_entry_written_over_the_one_that_is_there(self):
        press = Pressed((2, ((0, 1), (1, None)), ()), ())
        self.changes(press, (0, 1, 0), 1, ((0, 1), (None, None), (0, 2), ((0, 0), (0, 0), (1, 1))))
        self.assertEqual(press.size(), (2, 3, 3))

    def test_an_entry_written_into_a_free_cell(self):
        press = Pressed((3, ((0, None, 1), (1, 1, 1)), ()), ())
        cells = ((0, 0), (0, 0), (0, 1), (1, 1), (1, 1), (1, 1))
        self.changes(press, (0, 1, 0), 1, ((0, 1, 2), (None, None), (0, 3), cells))

    def test_an_entry_written_beyond_the_last_cell(self):
        press = Pressed((3, ((0, None, None), (1, None, None)), ()), ())
        cells = ((0, 0), None, None, (1, 1), None, (1, 0))
        self.changes(press, (1, 2, 0), 1, ((0, 1, 2), (None, None), (0, 3), cells))
        press = Pressed((3, ((None,) * 3,) * 2, ()), ())
        self.changes(press, (1, 2, 1), 1, ((0, 1, 2), (None, None), (0, 3), (None,) * 5 + ((1, 1),)))

    def test_none_without_a_fault_drops(self):
        press = Pressed((2, ((0, 1), (1, 1)), ()), ())
        self.changes(press, (0, 0, None), 1, ((0, 1), (None, None), (0, 2), (None, (0, 1), (1, 1), (1, 1))))
        self.changes(press, (1, 1, None), 1, ((0, 1), (None, None), (0, 2), (None, (0, 1), (1, 1))))

    def test_cells_end_with_the_last_that_is_taken_behind_a_drop(self):
        press = Pressed((3, ((0, None, None), (None, None, 1)), ()), ())
        self.assertEqual(press.size(), (3, 2, 6))
        self.changes(press, (1, 2, None), 1, ((0, 1, 2), (None, None), (0, 3), ((0, 0),)))
        self.changes(press, (0, 0, None), 1, ((0, 1, 2), (None, None), (0, 3), ()))
        self.assertEqual(press.size(), (3, 0, 0))
        self.changes(press, (0, 1, 1), 1, ((0, 1, 2), (None, None), (0, 3), (None, (0, 1))))


class TestLedOn(ChangeCase):
    def press(self):
        press = Pressed(STAIRS, ("faults",))
        self.assertEqual(press.picture(), ((0, 1, 2, 3), (None, 0, 1), (0, 4, 8), STAIRS_CELLS))
        return press

    def cells(self, some):
        """The cells of STAIRS but for those of the dict."""
        cells = [some.get(at, cell) for at, cell in enumerate(STAIRS_CELLS + (None,))]
        while cells[-1] is None:
            cells.pop()
        return ((0, 1, 2, 3), (None, 0, 1), (0, 4, 8), tuple(cells))

    def test_those_led_on_at_once_keep_what_they_told(self):
        self.changes(self.press(), (0, 0, 2), 2, self.cells({0: (0, 2), 4: (1, 1)}))
        self.changes(self.press(), (0, 0, None), 2, self.cells({0: None, 4: (1, 1)}))

    def test_those_that_have_an_entry_get_none(self):
        self.changes(self.press(), (0, 3, 2), 1, self.cells({3: (0, 2)}))

    def test_a_last_room_is_led_on_to_by_none(self):
        self.changes(self.press(), (2, 0, 0), 1, self.cells({8: (2, 0)}))

    def test_dropped_if_the_fault_tells_the_same(self):
        self.changes(self.press(), (1, 3, 1), 2, self.cells({7: None, 11: (2, 0)}))
        self.changes(self.press(), (2, 2, 1), 1, self.cells({10: None}))

    def test_dropped_if_a_room_behind_the_fault_tells_the_same(self):
        press = self.press()
        self.assertEqual(press.change(2, 0, 2), 1)
        self.changes(press, (2, 0, 1), 1, self.cells({}))

    def test_an_entry_of_what_the_fault_comes_to_tell_stays(self):
        press = self.press()
        self.changes(press, (0, 3, 0), 1, self.cells({3: (0, 0)}))
        self.assertEqual(press.machine(), changed(STAIRS, 0, 3, 0))

    def test_none_where_the_fault_tells_a_room(self):
        self.changes(self.press(), (2, 0, None), 1, self.cells({8: (2, None)}))
        self.changes(self.press(), (1, 0, None), 2, self.cells({4: (1, None), 8: (2, 1)}))

    def test_nones_are_kept_by_those_led_on(self):
        machine = (3, ((None, 1, 1), (None, 1, 0)), ())
        press = Pressed(machine, ("faults",))
        self.assertEqual(press.picture()[1:], ((None, 0), (0, 3), (None, (0, 1), (0, 1), None, None, (1, 0))))
        self.assertEqual(press.change(0, 0, 0), 2)
        self.assertEqual(press.picture()[3], ((0, 0), (0, 1), (0, 1), (1, None), None, (1, 0)))

    def test_several_led_on_to_one(self):
        machine = (2, ((0, 1), (0, 2), (0, 3), (0, 1)), ())
        press = Pressed(machine, ("faults",))
        self.assertEqual(press.picture()[1], (None, 0, 0, 0))
        self.assertEqual(press.change(0, 0, 3), 4)
        cells = ((0, 3), (0, 1), (1, 0), (1, 2), (2, 0), (2, 3), (3, 0))
        self.assertEqual(press.picture()[2:], ((0, 2, 4, 6), cells))
        self.assertEqual(press.change(0, 1, 0), 2)
        self.assertEqual(press.picture()[3], ((0, 3), (0, 0), *cells[2:], (3, 1)))


class TestNewClass(ChangeCase):
    def test_entries_for_the_new_class(self):
        press = Pressed(ALIKE, ("classes",))
        self.assertEqual(press.picture(), ((0, 0, 0), (None,) * 3, (0, 1, 2), ((0, 1), None, (2, 0))))
        cells = ((0, 1), (0, 1), (2, 0), (2, 0), (1, 2))
        self.changes(press, (1, 1, 2), 3, ((0, 1, 0), (None,) * 3, (0, 3, 2), cells))
        self.assertEqual(press.size(), (2, 5, 5))

    def test_the_first_letter_gets_the_new_class(self):
        press = Pressed(ALIKE, ("classes",))
        self.assertEqual(press.change(1, 0, 0), 3)
        self.assertEqual(press.picture()[0], (1, 0, 0))
        self.assertEqual(press.change(1, 1, 0), 3)
        self.assertEqual(press.picture()[0], (1, 2, 0))
        self.assertEqual(press.change(1, 2, 0), 1)
        self.assertEqual(press.picture()[0], (1, 2, 0))

    def test_the_number_is_the_count_of_classes(self):
        machine = (5, ((0, 1, 0, 1, None), (0, 0, 0, 0, 0)), ())
        press = Pressed(machine, ("classes",))
        self.assertEqual(press.picture()[0], (0, 1, 0, 1, 2))
        self.assertEqual(press.change(0, 0, 1), 3)
        self.assertEqual(press.picture()[0], (3, 1, 0, 1, 2))
        self.assertEqual(press.change(0, 3, 0), 3)
        self.assertEqual(press.picture()[0], (3, 1, 0, 4, 2))
        self.assertEqual(press.size()[0], 5)

    def test_the_rooms_own_entry_counts_twice(self):
        press = Pressed((2, ((0, 0),), ()), ("classes",))
        self.changes(press, (0, 1, None), 2, ((0, 1), (None,), (0,), ((0, 0),)))
        press = Pressed((2, ((0, 0), (None, None)), ()), ("classes",))
        self.changes(press, (0, 1, 1), 2, ((0, 1), (None, None), (0, 1), ((0, 0), (0, 1))))

    def test_alone_in_its_class_it_gets_none(self):
        press = Pressed((2, ((0, None),), ()), ("classes",))
        self.changes(press, (0, 1, 0), 1, ((0, 1), (None,), (0,), ((0, 0), (0, 0))))

    def test_letters_that_come_to_be_alike_are_not_put_together(self):
        press = Pressed(ALIKE, ("classes",))
        self.assertEqual(press.change(1, 1, 2), 3)
        self.assertEqual(press.change(1, 1, None), 1)
        self.assertEqual(press.machine(), ALIKE)
        self.assertEqual(press.picture()[0], (0, 1, 0))

    def test_rooms_rising_are_laid_in_turn(self):
        # The cells for class 1 of rooms 0 and 1 are those of the rooms behind them.
        machine = (2, ((0, 0), (1, 1), (2, 2), (None, None)), ())
        press = Pressed(machine, ("classes",))
        self.assertEqual(press.picture()[3], ((0, 0), (1, 1), (2, 2)))
        self.assertEqual(press.change(3, 0, 3), 4)
        # Room 0 goes to cells 3 and 4, room 1 to 0 and 1, so that room 2 goes to 5 and 6, and room 3 to 2.
        cells = ((1, 1), (1, 1), (3, 3), (0, 0), (0, 0), (2, 2), (2, 2))
        self.assertEqual(press.picture(), ((1, 0), (None,) * 4, (3, 0, 5, 1), cells))

    def test_with_faults(self):
        # Letters 2 and 3 are one class; room 1 has an entry for it, and room 2, led on to room 1, has none.
        machine = (4, ((1, 2, 1, 1), (1, 2, 0, 0), (1, 1, 0, 0)), ())
        press = Pressed(machine, ("classes", "faults"))
        self.assertEqual(press.picture(), (
            (0, 1, 2, 2), (None, 0, 1), (0, 3, 6), ((0, 1), (0, 2), (0, 1), None, None, (1, 0), None, (2, 1)),
        ))
        # Class 3 is written for rooms 0 and 1, at cells 3 and 6, then for room 2 what it told, at cell 9; dropped at 6.
        self.changes(press, (1, 3, 1), 4, (
            (0, 1, 2, 3), (None, 0, 1), (0, 3, 6),
            ((0, 1), (0, 2), (0, 1), (0, 1), None, (1, 0), None, (2, 1), None, (2, 0)),
        ))


class TestLaidAnew(ChangeCase):
    def test_a_cell_of_another_room(self):
        press = Pressed((3, ((1, 1, None), (0, None, None)), ()), ("laid",))
        self.assertEqual(press.picture()[2:], ((0, 2), ((0, 1), (0, 1), (1, 0))))
        cells = (None, None, (1, 0), (0, 1), (0, 1), (0, 0))
        self.changes(press, (0, 2, 0), 1, ((0, 1, 2), (None, None), (3, 2), cells))

    def test_its_own_old_cells_are_free(self):
        press = Pressed((2, ((1, 1), (None, 0)), ()), ("laid",))
        self.assertEqual(press.picture()[2:], ((0, 1), ((0, 1), (0, 1), (1, 0))))
        cells = ((0, 1), (0, 1), (1, 1), (1, 0))
        self.changes(press, (1, 0, 1), 1, ((0, 1), (None, None), (0, 2), cells))

    def test_a_lesser_base_than_before(self):
        press = Pressed((3, ((1, 1, 1), (0, None, 0), (2, None, None)), ()), ("laid",))
        cells = ((0, 1), (0, 1), (0, 1), (1, 0), (2, 2), (1, 0))
        self.assertEqual(press.picture()[2:], ((0, 3, 4), cells))
        for letter in range(3):
            self.assertEqual(press.change(0, letter, None), 1)
        self.assertEqual(press.picture()[2:], ((0, 3, 4), (None, None, None, (1, 0), (2, 2), (1, 0))))
        cells = ((1, 0), (1, 1), (1, 0), None, (2, 2))
        self.changes(press, (1, 1, 1), 1, ((0, 1, 2), (None,) * 3, (0, 0, 4), cells))

    def test_a_hole_that_does_for_the_new_entry_alone_does_not(self):
        press = Pressed((3, ((1, None, 1), (0, 0, None)), ()), ("laid",))
        self.assertEqual(press.picture()[2:], ((0, 3), ((0, 1), None, (0, 1), (1, 0), (1, 0))))
        self.assertEqual(press.change(0, 1, 0), 1)
        self.assertEqual(press.picture()[2:], ((0, 3), ((0, 1), (0, 0), (0, 1), (1, 0), (1, 0))))
        self.assertEqual(press.change(1, 2, 0), 1)
        self.assertEqual(press.picture()[2:], ((0, 3), ((0, 1), (0, 0), (0, 1), (1, 0), (1, 0), (1, 0))))

    def test_bases_of_rooms_without_entries_stay(self):
        press = Pressed((2, ((0, 0), (1, None), (None, None)), ()), ("laid",))
        self.assertEqual(press.picture()[2:], ((0, 2, 0), ((0, 0), (0, 0), (1, 1))))
        self.changes(press, (1, 0, None), 1, ((0, 1), (None,) * 3, (0, 2, 0), ((0, 0), (0, 0))))
        # Its first entry is then at its place by that base.
        self.changes(press, (1, 1, 2), 1, ((0, 1), (None,) * 3, (0, 2, 0), ((0, 0), (0, 0), None, (1, 2))))
        # Room 2's base 0 does not do, nor 1: cell 2 is the first free one.
        self.changes(press, (2, 0, 0), 1, ((0, 1), (None,) * 3, (0, 2, 2), ((0, 0), (0, 0), (2, 0), (1, 2))))

    def test_those_led_on_are_laid_anew_too(self):
        machine = (2, ((0, 1), (0, 2), (0, 3), (0, 1)), ())
        press = Pressed(machine, ("faults", "laid"))
        self.assertEqual(press.picture()[1:], ((None, 0, 0, 0), (0, 1, 2, 0), ((0, 0), (0, 1), (1, 2), (2, 3))))
        # Room 1 goes to cells 4 and 5, so that room 2 may stay and take cell 2; room 3 goes to cell 6.
        self.assertEqual(press.change(0, 0, 3), 4)
        cells = ((0, 3), (0, 1), (2, 0), (2, 3), (1, 0), (1, 2), (3, 0))
        self.assertEqual(press.picture()[2:], ((0, 4, 2, 6), cells))


class TestRefused(unittest.TestCase):
    def refuses(self, kind, press, *step):
        before = press.picture()
        with self.subTest(step):
            refused(kind, None, press.change, *step)
            self.assertEqual(press.picture(), before)

    def test_no_room(self):
        for ways in SETS_OF_WAYS:
            press = Pressed(STAIRS, ways)
            for room in (*NO_NUMBERS, None, 3, 40):
                for letter, goal in ((0, 0), (9, 0), (0, 9), (None, True)):
                    self.refuses(BadRoom, press, room, letter, goal)

    def test_no_letter(self):
        for ways in SETS_OF_WAYS:
            press = Pressed(STAIRS, ways)
            for letter in (*NO_NUMBERS, None, 4, 30):
                for goal in (0, 1, None, 9, True):
                    self.refuses(BadLetter, press, 0, letter, goal)

    def test_no_next_room(self):
        for ways in SETS_OF_WAYS:
            press = Pressed(STAIRS, ways)
            for goal in (*NO_NUMBERS, 3, 40):
                self.refuses(BadRoom, press, 0, 0, goal)
                self.refuses(BadRoom, press, 2, 3, goal)

    def test_true_is_not_the_room_that_is_told(self):
        self.refuses(BadRoom, Pressed(STAIRS, ()), 0, 0, True)
        self.refuses(BadRoom, Pressed(STAIRS, ()), 1, 3, False)

    def test_none_may_be_set(self):
        for ways in SETS_OF_WAYS:
            press = Pressed(STAIRS, ways)
            press.change(0, 0, None)
            self.assertEqual(press.machine(), changed(STAIRS, 0, 0, None))


class TestLongRows(unittest.TestCase):
    def held(self, chance, machine, ways, steps):
        press, plain = Pressed(machine, ways), PlainPress(machine, ways)
        for _ in range(steps):
            step = chance_change(chance, machine)
            machine = changed(machine, *step)
            self.assertEqual(press.change(*step), plain.change(*step))
            self.assertEqual(press.picture(), plain.picture())
            self.assertEqual(press.size(), plain.size())
            self.assertEqual(press.machine(), machine)
            self.assertEqual(press.next(*step[:2]), step[2])
            self.assertIsNone(judged(machine, press.picture()))
            word = [chance.randrange(machine[0]) for _ in range(chance.randint(0, 8))]
            self.assertEqual(press.run(word), run(machine, word))

    def test_small_machines(self):
        chance = random.Random(120)
        for _ in range(60):
            machine = drawn_machine(chance, chance.randint(1, 6), chance.randint(1, 6))
            for ways in SETS_OF_WAYS:
                with self.subTest(machine, ways=ways):
                    self.held(chance, machine, ways, 20)

    def test_long_rows(self):
        chance = random.Random(121)
        for ways in SETS_OF_WAYS:
            for machine in (drawn_machine(chance, 5, 5), chance_machine(chance, 4, 7)):
                with self.subTest(machine, ways=ways):
                    self.held(chance, machine, ways, 300)

    def test_machines_at_their_bounds(self):
        chance = random.Random(122)
        for ways in SETS_OF_WAYS:
            for machine in (drawn_machine(chance, 30, 40), (30, ((None,) * 30,) * 40, (39,))):
                with self.subTest(ways):
                    self.held(chance, machine, ways, 15)


if __name__ == "__main__":
    unittest.main()
