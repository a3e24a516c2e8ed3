"""Point 5: classed."""

import random
import unittest

from pressedtables.classes import classed
from pressedtables.errors import BadMachine
from pressedtables.plain import run
from tests.machines import NO_MACHINES, chance_machine, ring
from tests.refusals import refused


def by_columns(columns, finals=()):
    return (len(columns), tuple(zip(*columns)), finals)


def tried_classes(machine):
    """For each letter the number of least letters up to it, less one, or that of its like."""
    letters, table, _ = machine
    classes = []
    for letter in range(letters):
        likes = [other for other in range(letter) if all(row[other] == row[letter] for row in table)]
        classes.append(classes[likes[0]] if likes else max(classes, default=-1) + 1)
    return tuple(classes)


class TestClassed(unittest.TestCase):
    def told(self, machine, classes, table):
        self.assertEqual(classed(machine), (classes, (max(classes) + 1, table, machine[2])))

    def test_one_letter(self):
        self.told((1, ((0,),), (0,)), (0,), ((0,),))
        self.told((1, ((None,), (0,)), ()), (0,), ((None,), (0,)))
        self.told(ring(40, (1, 39)), (0,), ring(40, ())[1])

    def test_thirty_letters_of_one_column(self):
        column = tuple(39 - room if room % 3 else None for room in range(40))
        self.told(by_columns([column] * 30, (0, 39)), (0,) * 30, tuple((goal,) for goal in column))
        self.told((30, ((None,) * 30,) * 2, (1,)), (0,) * 30, ((None,), (None,)))

    def test_thirty_letters_all_unlike(self):
        machine = (30, (tuple(range(30)), *((0,) * 30,) * 29), (3, 4))
        self.told(machine, tuple(range(30)), machine[1])
        machine = (30, (*((None,) * 30,) * 39, tuple(range(29, -1, -1))), ())
        self.told(machine, tuple(range(30)), machine[1])

    def test_thirty_letters_mixed(self):
        columns = [(1, 0), (0, 0), (1, None), (0, 1), (None, None)]
        order = [letter * 7 % 5 for letter in range(30)]
        classes = tuple(letter % 5 for letter in range(30))
        least = [columns[order[letter]] for letter in range(5)]
        self.told(by_columns([columns[at] for at in order], (1,)), classes, tuple(zip(*least)))

    def test_columns_that_differ_in_one_room_alone(self):
        for room in (0, 1, 2, 20, 38, 39):
            one = [7] * 40
            one[room] = 8
            with self.subTest(room):
                machine = by_columns([(7,) * 40, tuple(one), (7,) * 40])
                self.told(machine, (0, 1, 0), tuple((7, goal) for goal in one))

    def test_columns_that_differ_by_none_alone(self):
        self.told((2, ((0, None),), ()), (0, 1), ((0, None),))
        self.told((2, ((None, 0),), ()), (0, 1), ((None, 0),))
        self.told((3, ((0, 0, 0), (1, None, 1)), ()), (0, 1, 0), ((0, 0), (1, None)))
        self.told((3, ((None, None, None), (None, 0, 0)), (0,)), (0, 1, 1), ((None, None), (None, 0)))

    def test_letters_beside_and_apart_from_one_another(self):
        self.told((4, ((1, 1, 0, 0), (0, 0, 0, 0)), (1,)), (0, 0, 1, 1), ((1, 0), (0, 0)))
        self.told((4, ((1, 0, 0, 1), (0, 0, 0, 0)), (1,)), (0, 1, 1, 0), ((1, 0), (0, 0)))

    def test_numbered_by_least_letters_not_by_next_rooms(self):
        self.told((4, ((2, 1, 2, 0), (0, 0, 0, 0), (1, 1, 1, 1)), ()), (0, 1, 0, 2), ((2, 1, 0), (0,) * 3, (1,) * 3))
        self.told((3, ((None, 0, 0),), ()), (0, 1, 1), ((None, 0),))

    def test_rooms_and_finals_stay(self):
        machine = (3, ((1, 1, 1), (3, 3, 3), (0, 0, 0), (3, 3, 3)), (1, 3))
        self.told(machine, (0, 0, 0), ((1,), (3,), (0,), (3,)))

    def test_as_by_trying_each_two_letters(self):
        chance = random.Random(5)
        for _ in range(200):
            machine = chance_machine(chance, chance.randint(1, 12), chance.randint(1, 3))
            classes, pressed = classed(machine)
            self.assertEqual(classes, tried_classes(machine))
            word = [chance.randrange(machine[0]) for _ in range(12)]
            self.assertEqual(run(pressed, [classes[letter] for letter in word]), run(machine, word))
            self.assertEqual(pressed[2], machine[2])

    def test_classed_again_nothing_is_put_together(self):
        chance = random.Random(6)
        for _ in range(50):
            pressed = classed(chance_machine(chance, chance.randint(1, 30), chance.randint(1, 2)))[1]
            self.assertEqual(classed(pressed), (tuple(range(pressed[0])), pressed))

    def test_tuples(self):
        told = classed((2, ((0, 0),), ()))
        self.assertIs(type(told), tuple)
        self.assertIs(type(told[0]), tuple)
        self.assertIs(type(told[1]), tuple)
        self.assertIs(type(told[1][1]), tuple)
        self.assertIs(type(told[1][1][0]), tuple)


class TestRefused(unittest.TestCase):
    def test_no_machine(self):
        for machine, row in NO_MACHINES:
            with self.subTest(machine):
                self.assertEqual(refused(BadMachine, "row", classed, machine), row)


if __name__ == "__main__":
    unittest.main()
