"""Point 4: apart, and Unlike."""

import itertools
import random
import unittest

from pressedtables.errors import BadMachine, Unlike
from pressedtables.plain import apart, run
from tests.machines import chance_machine, lock, renumbered, ring
from tests.refusals import refused


def nudged(chance, machine):
    """The machine with one next room, or all finals, otherwise."""
    letters, table, finals = machine
    rows = [list(row) for row in table]
    if chance.random() < 0.3:
        finals = tuple(room for room in range(len(table)) if chance.random() < 0.5)
    else:
        chance.choice(rows)[chance.randrange(letters)] = chance.choice([None, *range(len(table))])
    return (letters, tuple(tuple(row) for row in rows), finals)


def tried_apart(machine, other, longest):
    """The least word of all up to so many letters, by trying each."""
    for many in range(longest + 1):
        for word in itertools.product(range(machine[0]), repeat=many):
            if run(machine, list(word))[1] != run(other, list(word))[1]:
                return list(word)
    return None


class TestToldApart(unittest.TestCase):
    def told(self, machine, other, word):
        self.assertEqual(apart(machine, other), word)
        self.assertEqual(apart(other, machine), word)

    def test_the_empty_word(self):
        self.told((1, ((0,),), ()), (1, ((0,),), (0,)), [])
        self.told((2, ((None, 0),), (0,)), (2, ((0, 0),), ()), [])

    def test_one_letter(self):
        self.told((2, ((0, 1), (1, 1)), (1,)), (2, ((0, 0),), ()), [1])

    def test_a_longer_word(self):
        self.told(lock([1, 0, 2], 3, (3,)), lock([1, 0, 2], 3, ()), [1, 0, 2])

    def test_a_shorter_word_though_it_comes_later_as_lists_ascend(self):
        other = (2, ((0, 1), (1, 1)), ())
        machine = (2, ((2, 1), (1, 1), (3, 3), (3, 3)), (1, 3))
        self.told(machine, other, [1])

    def test_the_first_of_several_of_the_same_length(self):
        nothing = (3, ((0, 0, 0),), ())
        self.told((3, ((0, 1, 1), (0, 0, 0)), (1,)), nothing, [1])
        self.told((3, ((1, 2, 0), (0, 0, 3), (3, 0, 0), (3, 3, 3)), (3,)), nothing, [0, 2])
        self.told((3, ((2, 1, 0), (3, 3, 3), (0, 0, 3), (3, 3, 3)), (3,)), nothing, [0, 2])

    def test_only_by_a_word_that_breaks(self):
        self.told((1, ((None,),), ()), (1, ((1,), (1,)), ()), [0])
        self.told((1, ((1,), (None,)), (0, 1)), (1, ((0,),), (0,)), [0, 0])
        self.told((2, ((1, 0), (0, None)), ()), (2, ((0, 0),), ()), [0, 1])

    def test_broken_is_neither_good_nor_bad(self):
        for finals in ((), (1,)):
            with self.subTest(finals):
                self.told((1, ((None,),), ()), (1, ((1,), (1,)), finals), [0])

    def test_the_longest_words_there_can_be_of_one_letter(self):
        self.told(ring(40, (39,)), ring(40, ()), [0] * 39)
        self.told(ring(40, (0,)), ring(39, (0,)), [0] * 39)
        self.told(ring(40, (38,)), ring(39, (38,)), [0] * 77)

    def test_a_long_word_of_many_letters(self):
        code = [(at * 7 + 3) % 30 for at in range(39)]
        self.told(lock(code, 30, (39,)), lock(code, 30, ()), code)

    def test_a_long_word_that_breaks_at_last(self):
        code = [(at * 11 + 5) % 30 for at in range(40)]
        whole = lock(code[:39], 30, ())
        last = tuple(None if letter == code[39] else 39 for letter in range(30))
        self.told(whole, (30, (*whole[1][:39], last), ()), code)

    def test_as_by_trying_each_word(self):
        chance = random.Random(4)
        kinds = set()
        for _ in range(400):
            letters = chance.randint(1, 3)
            machine = chance_machine(chance, letters, chance.randint(1, 3))
            strange = chance_machine(chance, letters, chance.randint(1, 3))
            for other in (strange, nudged(chance, machine)):
                told = apart(machine, other)
                # Two machines of three rooms, and a broken end each, are told apart by six letters or never.
                self.assertEqual(told, tried_apart(machine, other, 6), (machine, other))
                kinds.add(None if told is None else len(told))
        self.assertLessEqual({None, 0, 1, 2, 3}, kinds)

    def test_the_word_is_a_list(self):
        self.assertIs(type(apart(ring(2, (1,)), ring(2, ()))), list)


class TestNotToldApart(unittest.TestCase):
    def same(self, machine, other):
        self.assertIsNone(apart(machine, other))
        self.assertIsNone(apart(other, machine))

    def test_the_same_machine(self):
        for machine in (ring(1, ()), ring(40, (0, 7)), (2, ((None, None),), (0,)), lock([0, 1], 2, (2,))):
            with self.subTest(machine):
                self.same(machine, machine)

    def test_other_numbers_of_rooms(self):
        chance = random.Random(9)
        for rooms in (2, 3, 10, 40):
            machine = chance_machine(chance, 4, rooms)
            places = [0, *chance.sample(range(1, rooms), rooms - 1)]
            with self.subTest(rooms):
                self.same(machine, renumbered(machine, places))

    def test_rooms_never_come_to(self):
        self.same((1, ((0,),), ()), (1, ((0,), (None,), (2,)), (1, 2)))
        machine = lock([1, 0, 1], 2, (3,))
        more = (2, (*machine[1], *((at % 40, None) for at in range(4, 40))), (3, *range(10, 40)))
        self.same(machine, more)

    def test_rooms_that_are_alike(self):
        self.same(ring(2, (0,)), ring(40, tuple(range(0, 40, 2))))

    def test_all_words_broken_but_the_empty_one(self):
        self.same((2, ((None, None),), ()), (2, ((None, None), (0, 1)), (1,)))


class TestRefused(unittest.TestCase):
    def test_machines_of_not_as_many_letters(self):
        one = (1, ((0,),), ())
        two = (2, ((0, 0),), (0,))
        thirty = (30, ((None,) * 30,), ())
        for machine, other in ((one, two), (two, one), (thirty, one), (two, thirty)):
            with self.subTest(machine, other=other):
                refused(Unlike, None, apart, machine, other)

    def test_the_machine_ahead_of_the_other_one_ahead_of_unlike(self):
        good = (1, ((0,), (0,), (0,)), ())
        bad = (2, ((0, 0), (9, 0)), ())
        worse = (3, ((0, 0, 0), (1, 0, 0)), (5,))
        self.assertEqual(refused(BadMachine, "row", apart, bad, worse), 1)
        self.assertEqual(refused(BadMachine, "row", apart, worse, bad), 2)
        self.assertEqual(refused(BadMachine, "row", apart, bad, good), 1)
        self.assertEqual(refused(BadMachine, "row", apart, good, bad), 1)
        self.assertEqual(refused(BadMachine, "row", apart, good, None), 0)
        self.assertEqual(refused(BadMachine, "row", apart, bad, None), 1)


if __name__ == "__main__":
    unittest.main()
