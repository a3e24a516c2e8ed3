"""Point 1: what is handed in, told and refused stays whose it is."""

import copy
import unittest

from pressedtables.errors import BadMachine, BadWord, PressError
from pressedtables.plain import apart, run
from tests.refusals import refused

MACHINE = (2, ((1, None), (0, 1)), (1,))
OTHER = (2, ((1, None), (0, 0)), (1,))


class TestHandedIn(unittest.TestCase):
    def stays(self, call, *handed):
        before = copy.deepcopy(handed)
        try:
            call(*handed)
        except PressError:
            pass
        self.assertEqual(repr(handed), repr(before))

    def test_it_is_the_same_behind_each_call(self):
        self.stays(run, MACHINE, [])
        self.stays(run, MACHINE, [0, 1, 0, 0])
        self.stays(run, MACHINE, [1, 1, 1])
        self.stays(apart, MACHINE, OTHER)
        self.stays(apart, MACHINE, MACHINE)

    def test_it_is_the_same_behind_a_refusal(self):
        self.stays(run, MACHINE, [0, 2, 0])
        self.stays(run, MACHINE, [0] * 201)
        self.stays(run, (2, [[1, 0]], [1, 0]), [0])
        self.stays(run, (2, ((0, 0), [1, 0]), (0,)), [0])
        self.stays(run, (2, ((0, 0),), [0]), [0])
        self.stays(apart, MACHINE, [2, [[1, 0]], [0]])
        self.stays(apart, MACHINE, (1, ((0,),), ()))

    def test_a_word_is_not_kept(self):
        word = [0, 1, 0]
        told = run(MACHINE, word)
        word.clear()
        self.assertEqual(told, ([0, 1, 1, 0], "bad"))
        self.assertEqual(run(MACHINE, word), ([0], "bad"))

    def test_told_rooms_may_be_changed(self):
        for word in ([], [0, 1, 0], [0, 0, 1], [1]):
            with self.subTest(word):
                first = run(MACHINE, word)
                before = copy.deepcopy(first)
                first[0].append(99)
                first[0][0] = None
                self.assertEqual(run(MACHINE, word), before)

    def test_a_told_word_may_be_changed(self):
        finals = (2, ((0, 0),), (0,))
        for machine, other, word in ((MACHINE, OTHER, [0, 1]), (MACHINE, finals, [])):
            with self.subTest(word):
                first = apart(machine, other)
                self.assertEqual(first, word)
                first.append(99)
                first[0] = None
                self.assertEqual(apart(machine, other), word)

    def test_the_same_is_told_behind_a_refusal(self):
        before = run(MACHINE, [0, 1])
        refused(BadWord, "place", run, MACHINE, [0, 5])
        refused(BadMachine, "row", run, (2, ((1, 0),), ()), [0, 1])
        self.assertEqual(run(MACHINE, [0, 1]), before)
        self.assertEqual(refused(BadWord, "place", run, MACHINE, [0, 5]), 1)
        self.assertEqual(refused(BadWord, "place", run, MACHINE, [0, 5]), 1)

    def test_true_and_false_are_no_numbers(self):
        self.assertEqual(refused(BadWord, "place", run, MACHINE, [0, True]), 1)
        self.assertEqual(refused(BadWord, "place", run, MACHINE, [False]), 0)
        self.assertEqual(refused(BadMachine, "row", run, (True, ((0,),), ()), []), 0)
        self.assertEqual(refused(BadMachine, "row", run, (1, ((0,), (True,)), ()), []), 1)
        self.assertEqual(refused(BadMachine, "row", apart, MACHINE, (2, ((0, 0), (0, 0)), (False,))), 2)


if __name__ == "__main__":
    unittest.main()
