"""Point 3: words, BadWord with its `place`, and run."""

import unittest

from pressedtables.errors import BadMachine, BadWord
from pressedtables.plain import run
from tests.refusals import refused

# Letter 0 leads along 0, 1, 2 and stays there; letter 1 leads back, letter 2 breaks but in room 1.
MACHINE = (3, ((1, 0, None), (2, 0, 1), (2, 1, None)), (2,))
STAYING = (3, ((0, 0, 0),), (0,))
NO_LETTERS = (3, 30, -1, True, False, None, "0", (0,), [0])


def place_of(word, machine=STAYING):
    return refused(BadWord, "place", run, machine, word)


class TestWords(unittest.TestCase):
    def test_words_of_no_one_and_two_hundred_letters(self):
        self.assertEqual(run(STAYING, []), ([0], "good"))
        self.assertEqual(run(STAYING, [2]), ([0, 0], "good"))
        self.assertEqual(run(STAYING, [1] * 200), ([0] * 201, "good"))

    def test_a_two_hundred_and_first_letter(self):
        for count in (201, 202, 250):
            with self.subTest(count):
                self.assertEqual(place_of([0] * count), 200)
        self.assertEqual(place_of([0] * 200 + [9]), 200)

    def test_an_earlier_letter_than_the_two_hundred_and_first(self):
        for place in (0, 100, 199):
            for letter in NO_LETTERS:
                word = [0] * 201
                word[place] = letter
                with self.subTest(place, letter=letter):
                    self.assertEqual(place_of(word), place)

    def test_letters_that_there_are_not(self):
        for place in (0, 2, 4):
            for letter in NO_LETTERS:
                word = [0, 1, 2, 1, 0]
                word[place] = letter
                with self.subTest(place, letter=letter):
                    self.assertEqual(place_of(word), place)

    def test_the_first_of_several(self):
        self.assertEqual(place_of([0, 7, True, 7]), 1)
        self.assertEqual(place_of([None, None]), 0)

    def test_the_letters_are_the_machines(self):
        for letters in (1, 2, 29, 30):
            machine = (letters, ((0,) * letters,), ())
            with self.subTest(letters):
                self.assertEqual(run(machine, [letters - 1]), ([0, 0], "bad"))
                self.assertEqual(place_of([0, letters], machine), 1)

    def test_what_is_no_list(self):
        for word in (None, (), (0, 1), "01", 0, True):
            with self.subTest(word):
                self.assertEqual(place_of(word), 0)

    def test_a_bad_letter_behind_a_break_is_refused(self):
        self.assertEqual(place_of([2, 0, 9], MACHINE), 2)


class TestRun(unittest.TestCase):
    def test_good(self):
        self.assertEqual(run(MACHINE, [0, 0]), ([0, 1, 2], "good"))
        self.assertEqual(run(MACHINE, [0, 2, 2, 0, 0]), ([0, 1, 1, 1, 2, 2], "good"))

    def test_bad(self):
        self.assertEqual(run(MACHINE, []), ([0], "bad"))
        self.assertEqual(run(MACHINE, [0]), ([0, 1], "bad"))
        self.assertEqual(run(MACHINE, [0, 0, 1, 1]), ([0, 1, 2, 1, 0], "bad"))

    def test_broken_at_the_first_a_middle_and_the_last_letter(self):
        self.assertEqual(run(MACHINE, [2, 0, 0]), ([0], "broken"))
        self.assertEqual(run(MACHINE, [0, 0, 2, 1, 0]), ([0, 1, 2], "broken"))
        self.assertEqual(run(MACHINE, [0, 1, 2]), ([0, 1, 0], "broken"))
        self.assertEqual(run(MACHINE, [2]), ([0], "broken"))

    def test_broken_behind_a_final_is_broken(self):
        machine = (1, ((1,), (None,)), (0, 1))
        self.assertEqual(run(machine, [0]), ([0, 1], "good"))
        self.assertEqual(run(machine, [0, 0]), ([0, 1], "broken"))

    def test_a_next_room_0_is_no_hole(self):
        self.assertEqual(run((1, ((0,),), ()), [0, 0]), ([0, 0, 0], "bad"))

    def test_forty_rooms_one_by_one(self):
        table = tuple((at + 1 if at < 39 else None,) for at in range(40))
        machine = (1, table, (39,))
        self.assertEqual(run(machine, [0] * 38), (list(range(39)), "bad"))
        self.assertEqual(run(machine, [0] * 39), (list(range(40)), "good"))
        self.assertEqual(run(machine, [0] * 40), (list(range(40)), "broken"))

    def test_a_long_word_broken_at_its_last_letter(self):
        machine = (2, ((0, None),), (0,))
        self.assertEqual(run(machine, [0] * 199 + [1]), ([0] * 200, "broken"))

    def test_the_kinds_of_what_is_told(self):
        told = run(MACHINE, [0, 1])
        self.assertIs(type(told), tuple)
        self.assertIs(type(told[0]), list)
        self.assertIs(type(told[1]), str)

    def test_the_machine_is_refused_ahead_of_the_word(self):
        self.assertEqual(refused(BadMachine, "row", run, (1, ((0,), (5,)), ()), [9]), 1)
        self.assertEqual(refused(BadMachine, "row", run, None, None), 0)
        self.assertEqual(refused(BadMachine, "row", run, (1, ((0,),), (1,)), [0] * 201), 1)


if __name__ == "__main__":
    unittest.main()
