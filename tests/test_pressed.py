"""Point 11: Pressed, its ways and BadWays, next, run, machine, size and picture."""

import random
import unittest

from pressedtables.classes import classed
from pressedtables.errors import BadLetter, BadMachine, BadRoom, BadWays, BadWord
from pressedtables.faults import entries, tree
from pressedtables.laying import laid
from pressedtables.plain import run
from pressedtables.pressed import Pressed
from tests.machines import NO_MACHINES, chance_machine, lock, ring
from tests.presses import ALL_WAYS, SETS_OF_WAYS, PlainPress
from tests.refusals import refused

# Letters 0 and 2 have one column; room 2 is like room 0 but for letter 1.
MACHINE = (3, ((1, None, 1), (0, 0, 0), (1, 2, 1)), (1,))
BROKEN_SOMEWHERE = (3, ((1, 0, None), (2, 0, 1), (2, 1, None)), (2,))
WIDEST = (30, tuple(tuple((room * letter + room) % 41 for letter in range(30)) for room in range(40)), (0, 39))
WIDEST = (30, tuple(tuple(None if goal == 40 else goal for goal in row) for row in WIDEST[1]), WIDEST[2])
NO_NUMBERS = (-1, True, False, None, "0", (0,), [0], [])


def pictured(machine, *ways):
    return Pressed(machine, ways).picture()


def machines():
    """Machines of all sorts, some with columns or rows alike."""
    chance = random.Random(110)
    yield from (MACHINE, BROKEN_SOMEWHERE, ring(40, (3,)), lock([0, 2, 1, 0], 3, (4,)), (1, ((None,),), (0,)))
    yield from ((30, ((None,) * 30,) * 40, ()), (30, ((0,) * 30,), (0,)))
    for _ in range(25):
        letters, rooms = chance.randint(1, 7), chance.randint(1, 7)
        machine = chance_machine(chance, letters, rooms)
        yield machine
        columns = [chance.randrange(letters) for _ in range(chance.randint(1, 9))]
        rows = [machine[1][chance.randrange(rooms)] for _ in range(rooms)]
        yield (len(columns), tuple(tuple(row[at] for at in columns) for row in rows), machine[2])


class TestWays(unittest.TestCase):
    def test_in_any_order_the_same_press(self):
        for machine in machines():
            for ways in ALL_WAYS:
                one = Pressed(machine, tuple(sorted(ways)))
                other = Pressed(machine, ways)
                self.assertEqual(other.picture(), one.picture())
                self.assertEqual(other.size(), one.size())

    def test_sixteen_orders(self):
        self.assertEqual(len(set(ALL_WAYS)), 16)
        self.assertIn((), ALL_WAYS)

    def test_no_tuple(self):
        for ways in (None, "classes", "", ["classes"], [], 0, 1, True, False):
            with self.subTest(ways):
                refused(BadWays, None, Pressed, MACHINE, ways)

    def test_what_is_no_way(self):
        for wrong in ("", "class", "Classes", "fault", "laid ", "all", 0, 1, None, True, False, ("laid",), []):
            for ways in ((wrong,), (wrong, "classes", "faults"), ("laid", wrong, "faults"), ("laid", "classes", wrong)):
                with self.subTest(ways):
                    refused(BadWays, None, Pressed, MACHINE, ways)

    def test_a_way_told_twice(self):
        for ways in (
            ("classes", "classes"), ("faults", "faults"), ("laid", "laid"), ("classes", "laid", "classes"),
            ("classes", "laid", "laid"), ("faults", "faults", "laid"), ("classes", "faults", "laid", "laid"),
            ("classes", "faults", "laid", "classes"),
        ):
            with self.subTest(ways):
                refused(BadWays, None, Pressed, MACHINE, ways)

    def test_the_machine_ahead_of_the_ways(self):
        for machine, row in NO_MACHINES:
            for ways in ((), ("no",), None, ("laid", "laid")):
                with self.subTest(machine, ways=ways):
                    self.assertEqual(refused(BadMachine, "row", Pressed, machine, ways), row)


class TestPicture(unittest.TestCase):
    def test_no_way(self):
        self.assertEqual(pictured(MACHINE), (
            (0, 1, 2), (None, None, None), (0, 3, 6),
            ((0, 1), None, (0, 1), (1, 0), (1, 0), (1, 0), (2, 1), (2, 2), (2, 1)),
        ))

    def test_classes(self):
        self.assertEqual(pictured(MACHINE, "classes"), (
            (0, 1, 0), (None, None, None), (0, 2, 4), ((0, 1), None, (1, 0), (1, 0), (2, 1), (2, 2)),
        ))

    def test_faults(self):
        classes, faults, bases, cells = pictured(MACHINE, "faults")
        self.assertEqual((classes, faults, bases), ((0, 1, 2), tree(MACHINE)[1], (0, 3, 6)))
        self.assertEqual(faults, (None, None, 0))
        self.assertEqual(cells, ((0, 1), None, (0, 1), (1, 0), (1, 0), (1, 0), None, (2, 2)))

    def test_laid(self):
        self.assertEqual(pictured(MACHINE, "laid"), (
            (0, 1, 2), (None, None, None), (6, 0, 3),
            ((1, 0), (1, 0), (1, 0), (2, 1), (2, 2), (2, 1), (0, 1), None, (0, 1)),
        ))

    def test_all_ways(self):
        self.assertEqual(pictured(MACHINE, "classes", "faults", "laid"), (
            (0, 1, 0), (None, None, 0), (2, 0, 2), ((1, 0), (1, 0), (0, 1), (2, 2)),
        ))

    def test_each_part_as_the_other_modules_tell_it(self):
        for machine in machines():
            for ways in SETS_OF_WAYS:
                with self.subTest(machine, ways=ways):
                    classes, faults, bases, cells = pictured(machine, *ways)
                    by_classes = machine
                    if "classes" in ways:
                        self.assertEqual(classes, classed(machine)[0])
                        by_classes = classed(machine)[1]
                    else:
                        self.assertEqual(classes, tuple(range(machine[0])))
                    rows = entries(by_classes, faults)
                    if "faults" in ways:
                        self.assertEqual(sum(map(len, rows)), tree(by_classes)[0])
                    else:
                        self.assertEqual(faults, (None,) * len(machine[1]))
                    if "laid" in ways:
                        self.assertEqual((bases, cells), laid(rows))
                    else:
                        self.assertEqual(bases, tuple(room * by_classes[0] for room in range(len(rows))))
                        at = [(bases[room] + one, (room, goal)) for room, row in enumerate(rows) for one, goal in row]
                        self.assertEqual([(one, cell) for one, cell in enumerate(cells) if cell], sorted(at))
                    self.assertEqual(PlainPress(machine, ways).picture(), (classes, faults, bases, cells))

    def test_cells_end_with_the_last_that_is_taken(self):
        for machine in machines():
            for ways in SETS_OF_WAYS:
                cells = pictured(machine, *ways)[3]
                self.assertTrue(cells == () or cells[-1] is not None)
        self.assertEqual(pictured((2, ((0, None), (None, None)), ()))[2:], ((0, 2), ((0, 0),)))

    def test_rooms_without_entries_have_their_bases(self):
        machine = (2, ((None, None), (None, None), (None, 0)), ())
        self.assertEqual(pictured(machine)[2:], ((0, 2, 4), (None,) * 5 + ((2, 0),)))
        self.assertEqual(pictured(machine, "laid")[2:], ((0, 0, 0), (None, (2, 0))))

    def test_no_cell(self):
        for ways in ALL_WAYS:
            press = Pressed((1, ((None,),), (0,)), ways)
            self.assertEqual(press.picture(), ((0,), (None,), (0,), ()))
            self.assertEqual(press.size(), (1, 0, 0))
            self.assertEqual(press.run([0]), ([0], "broken"))
            self.assertEqual(press.run([]), ([0], "good"))

    def test_tuples(self):
        for ways in SETS_OF_WAYS:
            picture = pictured(MACHINE, *ways)
            self.assertIs(type(picture), tuple)
            self.assertEqual(len(picture), 4)
            self.assertEqual([type(part) for part in picture], [tuple] * 4)
            self.assertEqual({type(cell) for cell in picture[3]} - {type(None)}, {tuple})

    def test_size(self):
        for ways, size in (
            ((), (3, 8, 9)), (("classes",), (2, 5, 6)), (("faults",), (3, 6, 8)), (("laid",), (3, 8, 9)),
            (("classes", "faults"), (2, 4, 6)), (("classes", "laid"), (2, 5, 5)), (("faults", "laid"), (3, 6, 6)),
            (("classes", "faults", "laid"), (2, 4, 4)),
        ):
            with self.subTest(ways):
                self.assertEqual(Pressed(MACHINE, ways).size(), size)
                self.assertIs(type(Pressed(MACHINE, ways).size()), tuple)

    def test_size_is_that_of_the_picture(self):
        for machine in machines():
            for ways in SETS_OF_WAYS:
                press = Pressed(machine, ways)
                classes, _, _, cells = press.picture()
                taken = [at for at, cell in enumerate(cells) if cell is not None]
                self.assertEqual(press.size(), (len(set(classes)), len(taken), max(taken, default=-1) + 1))


class TestNext(unittest.TestCase):
    def test_as_the_table_tells(self):
        for machine in (*machines(), WIDEST):
            for ways in SETS_OF_WAYS:
                press = Pressed(machine, ways)
                told = tuple(tuple(press.next(room, at) for at in range(machine[0])) for room in range(len(machine[1])))
                self.assertEqual(told, machine[1])
                self.assertEqual(press.machine(), machine)

    def test_machine_is_of_tuples(self):
        letters, table, finals = Pressed(MACHINE, ()).machine()
        self.assertIs(type(Pressed(MACHINE, ()).machine()), tuple)
        self.assertEqual([type(letters), type(table), type(finals)], [int, tuple, tuple])
        self.assertEqual({type(row) for row in table}, {tuple})

    def test_no_room(self):
        for ways in SETS_OF_WAYS:
            press = Pressed(MACHINE, ways)
            before = press.picture()
            for room in (*NO_NUMBERS, 3, 4, 40):
                for letter in (0, 2, 3, -1, None, "x"):
                    with self.subTest(room, letter=letter):
                        refused(BadRoom, None, press.next, room, letter)
            self.assertEqual(press.picture(), before)

    def test_no_letter(self):
        for ways in SETS_OF_WAYS:
            press = Pressed(MACHINE, ways)
            for letter in (*NO_NUMBERS, 3, 4, 30):
                with self.subTest(letter):
                    refused(BadLetter, None, press.next, 0, letter)
                    refused(BadLetter, None, press.next, 2, letter)

    def test_letters_are_not_classes(self):
        press = Pressed((30, ((0,) * 30,), ()), ("classes",))
        self.assertEqual(press.next(0, 29), 0)
        refused(BadLetter, None, press.next, 0, 30)

    def test_bounds(self):
        for ways in SETS_OF_WAYS:
            press = Pressed(WIDEST, ways)
            self.assertEqual(press.next(39, 29), WIDEST[1][39][29])
            refused(BadRoom, None, press.next, 40, 29)
            refused(BadLetter, None, press.next, 39, 30)


class TestRun(unittest.TestCase):
    def test_words_that_go_on_or_break(self):
        words = ([], [0], [0, 0], [0, 2, 2, 0, 0], [2], [2, 0, 0], [0, 0, 2, 1, 0], [0, 1, 2], [0] * 199 + [2])
        for ways in SETS_OF_WAYS:
            press = Pressed(BROKEN_SOMEWHERE, ways)
            for word in words:
                self.assertEqual(press.run(word), run(BROKEN_SOMEWHERE, word))
            self.assertEqual(press.run([0, 0]), ([0, 1, 2], "good"))
            self.assertEqual(press.run([0]), ([0, 1], "bad"))
            self.assertEqual(press.run([0, 0, 2, 1]), ([0, 1, 2], "broken"))

    def test_drawn_words(self):
        chance = random.Random(111)
        for machine in (*machines(), WIDEST):
            words = [[chance.randrange(machine[0]) for _ in range(chance.randint(0, 9))] for _ in range(9)]
            for ways in SETS_OF_WAYS:
                press = Pressed(machine, ways)
                for word in words:
                    self.assertEqual(press.run(word), run(machine, word))

    def test_kinds(self):
        told = Pressed(MACHINE, ("laid",)).run([0])
        self.assertEqual([type(told), type(told[0]), type(told[1])], [tuple, list, str])

    def test_the_same_words_are_refused(self):
        words = [None, (0, 1), "01", 0, [3], [0, -1], [0, 1, True], [0, None, 7]]
        words += [[0] * 201, [0] * 200 + [9], [0] * 199 + [9, 0]]
        for ways in SETS_OF_WAYS:
            press = Pressed(MACHINE, ways)
            for word in words:
                with self.subTest(word):
                    place = refused(BadWord, "place", run, MACHINE, word)
                    self.assertEqual(refused(BadWord, "place", press.run, word), place)
        self.assertEqual(refused(BadWord, "place", Pressed(MACHINE, ()).run, [0, 1, 3]), 2)


if __name__ == "__main__":
    unittest.main()
