"""Point 1: what is handed in, told and refused stays whose it is."""

import copy
import unittest

from pressedtables.classes import classed
from pressedtables.errors import BadDeep, BadFaults, BadMachine, BadRows, BadWord, PressError
from pressedtables.faults import entries, shallow, tree
from pressedtables.laying import laid, least
from pressedtables.merging import merged
from pressedtables.plain import apart, run
from tests.refusals import refused

MACHINE = (2, ((1, None), (0, 1)), (1,))
OTHER = (2, ((1, None), (0, 0)), (1,))
ROWS = (((0, 1), (3, None)), (), ((1, 0),), ((0, 0), (1, 1), (2, 2)))
# Calls that are let by, and such as are refused.
LET_BY = (
    (classed, MACHINE), (merged, MACHINE), (merged, (1, ((1,), (0,), (0,)), ())), (entries, MACHINE, (None, 0)),
    (tree, MACHINE), (shallow, MACHINE, 0), (shallow, MACHINE, 4), (laid, ROWS), (least, ROWS), (laid, ()), (least, ()),
)
REFUSED = (
    (classed, [2, [[1, 0]], []]), (classed, (2, ((1, 0), [0, 0]), ())), (merged, (2, ((0, 0),), [0])),
    (merged, (2, [(0, 0)], (0,))), (entries, MACHINE, [None, 0]), (entries, MACHINE, (None, [0])),
    (entries, MACHINE, (1, 0)), (tree, (2, [(0, 0)], ())), (shallow, MACHINE, [1]), (shallow, [MACHINE], 1),
    (shallow, (1, ((0,),) * 6, ()), 1), (laid, list(ROWS)), (laid, (ROWS[0], [(0, 0)])), (laid, (ROWS[0], ([0, 0],))),
    (least, [[(0, 0)]]), (least, (((0, [1]),),)), (least, (((0, 0),),) * 5),
)


class TestHandedIn(unittest.TestCase):
    def stays(self, call, *handed):
        before = copy.deepcopy(handed)
        try:
            call(*handed)
        except PressError:
            pass
        self.assertEqual(repr(handed), repr(before))

    def test_it_is_the_same_behind_each_call(self):
        self.stays(run, MACHINE, [])
        self.stays(run, MACHINE, [0, 1, 0, 0])
        self.stays(run, MACHINE, [1, 1, 1])
        self.stays(apart, MACHINE, OTHER)
        self.stays(apart, MACHINE, MACHINE)
        for call, *handed in LET_BY:
            with self.subTest(call.__name__, handed=handed):
                self.stays(call, *handed)

    def test_it_is_the_same_behind_a_refusal(self):
        self.stays(run, MACHINE, [0, 2, 0])
        self.stays(run, MACHINE, [0] * 201)
        self.stays(run, (2, [[1, 0]], [1, 0]), [0])
        self.stays(run, (2, ((0, 0), [1, 0]), (0,)), [0])
        self.stays(run, (2, ((0, 0),), [0]), [0])
        self.stays(apart, MACHINE, [2, [[1, 0]], [0]])
        self.stays(apart, MACHINE, (1, ((0,),), ()))
        for call, *handed in REFUSED:
            with self.subTest(call.__name__, handed=handed):
                refused(PressError, None, call, *handed)
                self.stays(call, *handed)

    def test_a_word_is_not_kept(self):
        word = [0, 1, 0]
        told = run(MACHINE, word)
        word.clear()
        self.assertEqual(told, ([0, 1, 1, 0], "bad"))
        self.assertEqual(run(MACHINE, word), ([0], "bad"))

    def test_told_rooms_may_be_changed(self):
        for word in ([], [0, 1, 0], [0, 0, 1], [1]):
            with self.subTest(word):
                first = run(MACHINE, word)
                before = copy.deepcopy(first)
                first[0].append(99)
                first[0][0] = None
                self.assertEqual(run(MACHINE, word), before)

    def test_a_told_word_may_be_changed(self):
        finals = (2, ((0, 0),), (0,))
        for machine, other, word in ((MACHINE, OTHER, [0, 1]), (MACHINE, finals, [])):
            with self.subTest(word):
                first = apart(machine, other)
                self.assertEqual(first, word)
                first.append(99)
                first[0] = None
                self.assertEqual(apart(machine, other), word)

    def test_a_told_list_of_merged_rooms_may_be_changed(self):
        machine = (2, ((1, 2), (0, 0), (0, 0), (3, 0)), (1, 2))
        for _ in range(3):
            numbers, pressed = merged(machine)
            self.assertEqual((numbers, pressed), ([0, 1, 1, None], (2, ((1, 1), (0, 0)), (1,))))
            numbers.append(99)
            numbers[0] = None
            numbers[3] = 7

    def test_asked_again_the_same_is_told(self):
        first = [call(*handed) for call, *handed in LET_BY]
        for call, *handed in REFUSED:
            refused(PressError, None, call, *handed)
        self.assertEqual([call(*handed) for call, *handed in LET_BY], first)

    def test_the_same_is_told_behind_a_refusal(self):
        before = run(MACHINE, [0, 1])
        refused(BadWord, "place", run, MACHINE, [0, 5])
        refused(BadMachine, "row", run, (2, ((1, 0),), ()), [0, 1])
        self.assertEqual(run(MACHINE, [0, 1]), before)
        self.assertEqual(refused(BadWord, "place", run, MACHINE, [0, 5]), 1)
        self.assertEqual(refused(BadWord, "place", run, MACHINE, [0, 5]), 1)

    def test_true_and_false_are_no_numbers(self):
        self.assertEqual(refused(BadWord, "place", run, MACHINE, [0, True]), 1)
        self.assertEqual(refused(BadWord, "place", run, MACHINE, [False]), 0)
        self.assertEqual(refused(BadMachine, "row", run, (True, ((0,),), ()), []), 0)
        self.assertEqual(refused(BadMachine, "row", run, (1, ((0,), (True,)), ()), []), 1)
        self.assertEqual(refused(BadMachine, "row", apart, MACHINE, (2, ((0, 0), (0, 0)), (False,))), 2)
        for call, *behind in ((classed,), (merged,), (entries, (None,)), (tree,), (shallow, 1)):
            with self.subTest(call.__name__):
                self.assertEqual(refused(BadMachine, "row", call, (True, ((0,),), ()), *behind), 0)
                self.assertEqual(refused(BadMachine, "row", call, (1, ((0,), (False,)), ()), *behind), 1)
        self.assertEqual(refused(BadFaults, "room", entries, MACHINE, (None, False)), 1)
        refused(BadDeep, None, shallow, MACHINE, True)
        refused(BadDeep, None, shallow, MACHINE, False)
        for call in (laid, least):
            with self.subTest(call.__name__):
                self.assertEqual(refused(BadRows, "row", call, ((), ((True, 0),))), 1)
                self.assertEqual(refused(BadRows, "row", call, ((), (), ((0, False),))), 2)


if __name__ == "__main__":
    unittest.main()
