"""Point 16: by_pairs and run_by_pairs."""

import random
import unittest

from pressedtables.errors import BadMachine, BadWord
from pressedtables.pairs import by_pairs, run_by_pairs
from pressedtables.plain import run
from tests.machines import NO_MACHINES, chance_machine, lock, ring
from tests.refusals import refused

# Letter 0 leads along 0, 1, 2 and stays there; letter 1 leads back, letter 2 breaks but in room 1.
MACHINE = (3, ((1, 0, None), (2, 0, 1), (2, 1, None)), (2,))


def begun(machine, room, word):
    """The room behind a word from this room on, None if it breaks."""
    for letter in word:
        room = None if room is None else machine[1][room][letter]
    return room


def tried(machine):
    """Each pair is of the class of the first one ahead that is like it, or of a new one."""
    letters, table, _ = machine
    pairs = [(one, other) for one in range(letters) for other in range(letters)]
    classes, least, columns = [], [], []
    for pair in pairs:
        column = [begun(machine, room, pair) for room in range(len(table))]
        likes = [at for at, other in enumerate(columns) if other == column]
        if not likes:
            least.append(pair)
            columns.append(column)
        classes.append(likes[0] if likes else len(least) - 1)
    return tuple(classes), tuple(tuple(begun(machine, room, pair) for pair in least) for room in range(len(table)))


def tried_run(machine, word):
    """Read off the plain run."""
    rooms, ends = run(machine, word)
    behind = [room for place, room in enumerate(rooms) if place % 2 == 0 or place == len(word)]
    return behind, ends, len(rooms) - 1 if ends == "broken" else None


class TestByPairs(unittest.TestCase):
    def test_one_letter(self):
        self.assertEqual(by_pairs((1, ((0,),), ())), ((0,), ((0,),)))
        self.assertEqual(by_pairs((1, ((None,),), (0,))), ((0,), ((None,),)))
        self.assertEqual(by_pairs(ring(3, (1,))), ((0,), ((2,), (0,), (1,))))
        told = tuple((room + 2 if room < 38 else None,) for room in range(40))
        table = tuple((room + 1 if room < 39 else None,) for room in range(40))
        self.assertEqual(by_pairs((1, table, ())), ((0,), told))

    def test_two_letters_ascend(self):
        machine = (2, ((1, 2), (3, 4), (5, 6), *((None, None),) * 4), ())
        self.assertEqual(by_pairs(machine), ((0, 1, 2, 3), ((3, 4, 5, 6), *((None,) * 4,) * 6)))

    def test_none_where_it_breaks_at_either_letter(self):
        classes, rows = by_pairs(MACHINE)
        for room in range(3):
            for one in range(3):
                for other in range(3):
                    self.assertEqual(rows[room][classes[one * 3 + other]], begun(MACHINE, room, [one, other]))
        # From room 0 on (2, 0) breaks at its first letter, (1, 2) at its second, and (0, 2) does not.
        self.assertEqual([rows[0][classes[at]] for at in (6, 5, 2)], [None, None, 1])

    def test_classes_numbered_by_their_least_pairs(self):
        machine = (2, ((0, 1), (0, 1)), ())
        self.assertEqual(by_pairs(machine), ((0, 1, 0, 1), ((0, 1), (0, 1))))
        machine = (2, ((1, 1), (0, 1)), ())
        self.assertEqual(by_pairs(machine), ((0, 1, 2, 1), ((0, 1, 0), (1, 1, 0))))
        machine = (2, ((None, 0),), ())
        self.assertEqual(by_pairs(machine), ((0, 0, 0, 1), ((None, 0),)))

    def test_pairs_that_differ_in_one_room_alone(self):
        machine = (2, ((0, 0), (0, 0), (1, 0)), ())
        self.assertEqual(by_pairs(machine), ((0, 0, 0, 0), ((0,), (0,), (0,))))
        machine = (2, ((0, 0), (0, 0), (2, 0)), ())
        self.assertEqual(by_pairs(machine), ((0, 1, 1, 1), ((0, 0), (0, 0), (2, 0))))

    def test_thirty_letters(self):
        machine = (30, tuple(tuple((room + letter) % 30 for letter in range(30)) for room in range(30)), ())
        classes, rows = by_pairs(machine)
        self.assertEqual(len(classes), 900)
        self.assertEqual(classes, tuple((one + other) % 30 for one in range(30) for other in range(30)))
        self.assertEqual(rows, tuple(tuple((room + number) % 30 for number in range(30)) for room in range(30)))
        self.assertEqual(by_pairs((30, ((None,) * 30,) * 40, ())), ((0,) * 900, ((None,),) * 40))

    def test_thirty_letters_of_few_columns(self):
        table = [tuple(letter % 5 + 1 for letter in range(30))]
        table += [tuple((letter + room) % 40 for letter in range(30)) for room in range(1, 40)]
        machine = (30, tuple(table), ())
        self.assertEqual(by_pairs(machine), tried(machine))

    def test_drawn_machines(self):
        chance = random.Random(160)
        for _ in range(150):
            machine = chance_machine(chance, chance.randint(1, 5), chance.randint(1, 5))
            self.assertEqual(by_pairs(machine), tried(machine))

    def test_tuples(self):
        told = by_pairs(MACHINE)
        self.assertEqual([type(told), type(told[0]), type(told[1])], [tuple] * 3)
        self.assertEqual({type(row) for row in told[1]}, {tuple})

    def test_no_machine(self):
        for machine, row in NO_MACHINES:
            with self.subTest(machine):
                self.assertEqual(refused(BadMachine, "row", by_pairs, machine), row)


class TestRunByPairs(unittest.TestCase):
    def test_words_that_go_on(self):
        self.assertEqual(run_by_pairs(MACHINE, []), ([0], "bad", None))
        self.assertEqual(run_by_pairs(MACHINE, [0]), ([0, 1], "bad", None))
        self.assertEqual(run_by_pairs(MACHINE, [0, 0]), ([0, 2], "good", None))
        self.assertEqual(run_by_pairs(MACHINE, [0, 0, 1]), ([0, 2, 1], "bad", None))
        self.assertEqual(run_by_pairs(MACHINE, [0, 2, 0, 1, 0]), ([0, 1, 1, 2], "good", None))
        self.assertEqual(run_by_pairs(MACHINE, [1, 1, 0, 0]), ([0, 0, 2], "good", None))

    def test_long_words(self):
        machine = ring(5, (4,))
        rooms = [place % 5 for place in range(201)]
        self.assertEqual(run_by_pairs(machine, [0] * 199), (rooms[:199:2] + [rooms[199]], "good", None))
        self.assertEqual(run_by_pairs(machine, [0] * 200), (rooms[::2], "bad", None))

    def test_broken_at_the_first_letter_of_a_pair(self):
        self.assertEqual(run_by_pairs(MACHINE, [2, 0]), ([0], "broken", 0))
        self.assertEqual(run_by_pairs(MACHINE, [2, 2, 0]), ([0], "broken", 0))
        self.assertEqual(run_by_pairs(MACHINE, [0, 0, 2, 0]), ([0, 2], "broken", 2))
        self.assertEqual(run_by_pairs(MACHINE, [0] * 198 + [2, 0]), ([0] + [2] * 99, "broken", 198))

    def test_broken_at_the_second_letter_of_a_pair(self):
        self.assertEqual(run_by_pairs(MACHINE, [1, 2]), ([0], "broken", 1))
        self.assertEqual(run_by_pairs(MACHINE, [1, 2, 0, 0]), ([0], "broken", 1))
        self.assertEqual(run_by_pairs(MACHINE, [0, 0, 0, 2, 0]), ([0, 2], "broken", 3))
        self.assertEqual(run_by_pairs(MACHINE, [0] * 199 + [2]), ([0] + [2] * 99, "broken", 199))

    def test_broken_at_a_last_single_letter(self):
        self.assertEqual(run_by_pairs(MACHINE, [2]), ([0], "broken", 0))
        self.assertEqual(run_by_pairs(MACHINE, [0, 0, 2]), ([0, 2], "broken", 2))
        self.assertEqual(run_by_pairs(MACHINE, [0] * 198 + [2]), ([0] + [2] * 99, "broken", 198))

    def test_drawn_words(self):
        chance = random.Random(161)
        for _ in range(60):
            machine = chance_machine(chance, chance.randint(1, 4), chance.randint(1, 6))
            for _ in range(12):
                word = [chance.randrange(machine[0]) for _ in range(chance.randint(0, 9))]
                self.assertEqual(run_by_pairs(machine, word), tried_run(machine, word))

    def test_thirty_letters(self):
        chance = random.Random(162)
        machine = chance_machine(chance, 30, 40)
        for count in (0, 1, 2, 3, 9, 199, 200):
            word = [chance.randrange(30) for _ in range(count)]
            self.assertEqual(run_by_pairs(machine, word), tried_run(machine, word))
        machine = lock([29, 0, 28, 1, 27], 30, (5,))
        self.assertEqual(run_by_pairs(machine, [29, 0, 28, 1, 27]), ([0, 2, 4, 5], "good", None))

    def test_kinds(self):
        for word in ([], [0], [0, 0], [2], [1, 2]):
            told = run_by_pairs(MACHINE, word)
            self.assertEqual([type(told), type(told[0]), type(told[1])], [tuple, list, str])

    def test_told_lists_may_be_changed(self):
        for word in ([], [0], [0, 0, 1], [2], [1, 2]):
            before = tried_run(MACHINE, word)
            for _ in range(3):
                told = run_by_pairs(MACHINE, word)
                self.assertEqual(told, before)
                told[0].append(99)
                told[0][0] = None

    def test_refusals_as_those_of_run(self):
        words = [None, (0, 1), "01", 0, [3], [0, -1], [0, 1, True], [0, None, 7], [2, 2, 3]]
        words += [[0] * 201, [0] * 200 + [9], [0] * 199 + [9, 0]]
        for word in words:
            with self.subTest(word):
                place = refused(BadWord, "place", run, MACHINE, word)
                self.assertEqual(refused(BadWord, "place", run_by_pairs, MACHINE, word), place)
        for machine, row in NO_MACHINES:
            for word in ([], [99], None):
                with self.subTest(machine, word=word):
                    self.assertEqual(refused(BadMachine, "row", run_by_pairs, machine, word), row)


if __name__ == "__main__":
    unittest.main()
