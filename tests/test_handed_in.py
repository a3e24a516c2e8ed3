"""Point 1: what is handed in, told and refused stays whose it is."""

import copy
import unittest

from pressedtables.classes import classed
from pressedtables.errors import (
    BadDeep, BadFaults, BadLetter, BadList, BadLists, BadMachine, BadPicture, BadRoom, BadRows, BadStep, BadWays,
    BadWord, PressError,
)
from pressedtables.faults import entries, shallow, tree
from pressedtables.finder import Finder
from pressedtables.judging import judged
from pressedtables.laying import laid, least
from pressedtables.listing import listed, looked
from pressedtables.merging import merged
from pressedtables.notes import read, written
from pressedtables.pairs import by_pairs, run_by_pairs
from pressedtables.plain import apart, run
from pressedtables.plays import played
from pressedtables.pressed import Pressed
from tests.presses import SETS_OF_WAYS, changed
from tests.refusals import refused

MACHINE = (2, ((1, None), (0, 1)), (1,))
OTHER = (2, ((1, None), (0, 0)), (1,))
ROWS = (((0, 1), (3, None)), (), ((1, 0),), ((0, 0), (1, 1), (2, 2)))
PICTURE = ((0, 1), (None, None), (0, 2), ((0, 1), None, (1, 0), (1, 1)))
FORMS = (("full", (1, None)), ("same", 0), ("pairs", ((0, 1),)), ("runs", ((0, 1, 2),)))
# What may be asked of a press, and such as it refuses.
ASKED = (
    ("next", 0, 1), ("next", 1, 0), ("run", []), ("run", [0, 1, 0]), ("run", [1, 0]), ("machine",), ("size",),
    ("picture",),
)
NOT_DONE = (
    (BadRoom, "next", 2, 0), (BadLetter, "next", 0, 2), (BadWord, "run", [0, 2]), (BadWord, "run", (0,)),
    (BadRoom, "change", 2, 0, 0), (BadLetter, "change", 0, [0], 0), (BadRoom, "change", 0, 0, 2),
    (BadRoom, "change", 0, 0, [1]), (BadRoom, "change", 0, 0, True), (BadRoom, "change", 1, 1, False),
)
# Calls that are let by, and such as are refused.
LET_BY = (
    (classed, MACHINE), (merged, MACHINE), (merged, (1, ((1,), (0,), (0,)), ())), (entries, MACHINE, (None, 0)),
    (tree, MACHINE), (shallow, MACHINE, 0), (shallow, MACHINE, 4), (laid, ROWS), (least, ROWS), (laid, ()), (least, ()),
    (judged, MACHINE, PICTURE), (judged, OTHER, PICTURE), (judged, MACHINE, (*PICTURE[:1], (1, 0), *PICTURE[2:])),
    (listed, MACHINE), (looked, 2, FORMS, 0, 0), (looked, 2, FORMS, 1, 1), (looked, 2, FORMS, 2, 1),
    (looked, 2, FORMS, 3, 1), (by_pairs, MACHINE), (run_by_pairs, MACHINE, []), (run_by_pairs, MACHINE, [0, 1, 0]),
    (run_by_pairs, MACHINE, [0, 0, 1]), (written, PICTURE), (read, written(PICTURE)),
)
REFUSED = (
    (classed, [2, [[1, 0]], []]), (classed, (2, ((1, 0), [0, 0]), ())), (merged, (2, ((0, 0),), [0])),
    (merged, (2, [(0, 0)], (0,))), (entries, MACHINE, [None, 0]), (entries, MACHINE, (None, [0])),
    (entries, MACHINE, (1, 0)), (tree, (2, [(0, 0)], ())), (shallow, MACHINE, [1]), (shallow, [MACHINE], 1),
    (shallow, (1, ((0,),) * 6, ()), 1), (laid, list(ROWS)), (laid, (ROWS[0], [(0, 0)])), (laid, (ROWS[0], ([0, 0],))),
    (least, [[(0, 0)]]), (least, (((0, [1]),),)), (least, (((0, 0),),) * 5), (judged, MACHINE, list(PICTURE)),
    (judged, MACHINE, (*PICTURE[:3], [(0, 0)])), (judged, MACHINE, (*PICTURE[:3], ([0, 0],))),
    (judged, [MACHINE], PICTURE),
    (listed, (2, [(0, 0)], ())), (looked, 2, (("same", [0]),), 0, 0), (looked, 2, FORMS, [0], 0),
    (looked, 2, FORMS, 0, [0]),
    (by_pairs, (2, [(0, 0)], ())), (run_by_pairs, MACHINE, [0, 9]), (run_by_pairs, [MACHINE], [0]),
    (Finder, 2, [(0,), [1]]), (Finder, 2, [(0,), (0,)]), (Finder, 0, [(0,)]), (Finder, 2, []),
    (played, MACHINE, (), [["tidy"]]), (played, MACHINE, (), [("tidy",), ("next", [0], 0)]),
    (played, MACHINE, ["laid"], [("tidy",)]),
    (written, list(PICTURE)), (written, (*PICTURE[:3], [(0, 0)])), (read, "classes 0"), (read, ""),
    (read, ["classes 0"]),
    (Pressed, MACHINE, ["classes"]), (Pressed, MACHINE, (["classes"],)), (Pressed, (2, [(0, 0)], ()), ("laid",)),
)


class TestHandedIn(unittest.TestCase):
    def stays(self, call, *handed):
        before = copy.deepcopy(handed)
        try:
            call(*handed)
        except PressError:
            pass
        self.assertEqual(repr(handed), repr(before))

    def test_it_is_the_same_behind_each_call(self):
        self.stays(run, MACHINE, [])
        self.stays(run, MACHINE, [0, 1, 0, 0])
        self.stays(run, MACHINE, [1, 1, 1])
        self.stays(apart, MACHINE, OTHER)
        self.stays(apart, MACHINE, MACHINE)
        for call, *handed in LET_BY:
            with self.subTest(call.__name__, handed=handed):
                self.stays(call, *handed)

    def test_it_is_the_same_behind_a_refusal(self):
        self.stays(run, MACHINE, [0, 2, 0])
        self.stays(run, MACHINE, [0] * 201)
        self.stays(run, (2, [[1, 0]], [1, 0]), [0])
        self.stays(run, (2, ((0, 0), [1, 0]), (0,)), [0])
        self.stays(run, (2, ((0, 0),), [0]), [0])
        self.stays(apart, MACHINE, [2, [[1, 0]], [0]])
        self.stays(apart, MACHINE, (1, ((0,),), ()))
        for call, *handed in REFUSED:
            with self.subTest(call.__name__, handed=handed):
                refused(PressError, None, call, *handed)
                self.stays(call, *handed)

    def test_a_word_is_not_kept(self):
        word = [0, 1, 0]
        told = run(MACHINE, word)
        word.clear()
        self.assertEqual(told, ([0, 1, 1, 0], "bad"))
        self.assertEqual(run(MACHINE, word), ([0], "bad"))

    def test_told_rooms_may_be_changed(self):
        for word in ([], [0, 1, 0], [0, 0, 1], [1]):
            with self.subTest(word):
                first = run(MACHINE, word)
                before = copy.deepcopy(first)
                first[0].append(99)
                first[0][0] = None
                self.assertEqual(run(MACHINE, word), before)

    def test_a_told_word_may_be_changed(self):
        finals = (2, ((0, 0),), (0,))
        for machine, other, word in ((MACHINE, OTHER, [0, 1]), (MACHINE, finals, [])):
            with self.subTest(word):
                first = apart(machine, other)
                self.assertEqual(first, word)
                first.append(99)
                first[0] = None
                self.assertEqual(apart(machine, other), word)

    def test_a_told_list_of_merged_rooms_may_be_changed(self):
        machine = (2, ((1, 2), (0, 0), (0, 0), (3, 0)), (1, 2))
        for _ in range(3):
            numbers, pressed = merged(machine)
            self.assertEqual((numbers, pressed), ([0, 1, 1, None], (2, ((1, 1), (0, 0)), (1,))))
            numbers.append(99)
            numbers[0] = None
            numbers[3] = 7

    def test_asked_again_the_same_is_told(self):
        first = [call(*handed) for call, *handed in LET_BY]
        for call, *handed in REFUSED:
            refused(PressError, None, call, *handed)
        self.assertEqual([call(*handed) for call, *handed in LET_BY], first)

    def test_the_same_is_told_behind_a_refusal(self):
        before = run(MACHINE, [0, 1])
        refused(BadWord, "place", run, MACHINE, [0, 5])
        refused(BadMachine, "row", run, (2, ((1, 0),), ()), [0, 1])
        self.assertEqual(run(MACHINE, [0, 1]), before)
        self.assertEqual(refused(BadWord, "place", run, MACHINE, [0, 5]), 1)
        self.assertEqual(refused(BadWord, "place", run, MACHINE, [0, 5]), 1)

    def test_true_and_false_are_no_numbers(self):
        self.assertEqual(refused(BadWord, "place", run, MACHINE, [0, True]), 1)
        self.assertEqual(refused(BadWord, "place", run, MACHINE, [False]), 0)
        self.assertEqual(refused(BadMachine, "row", run, (True, ((0,),), ()), []), 0)
        self.assertEqual(refused(BadMachine, "row", run, (1, ((0,), (True,)), ()), []), 1)
        self.assertEqual(refused(BadMachine, "row", apart, MACHINE, (2, ((0, 0), (0, 0)), (False,))), 2)
        for call, *behind in ((classed,), (merged,), (entries, (None,)), (tree,), (shallow, 1)):
            with self.subTest(call.__name__):
                self.assertEqual(refused(BadMachine, "row", call, (True, ((0,),), ()), *behind), 0)
                self.assertEqual(refused(BadMachine, "row", call, (1, ((0,), (False,)), ()), *behind), 1)
        self.assertEqual(refused(BadFaults, "room", entries, MACHINE, (None, False)), 1)
        refused(BadDeep, None, shallow, MACHINE, True)
        refused(BadDeep, None, shallow, MACHINE, False)
        for call in (laid, least):
            with self.subTest(call.__name__):
                self.assertEqual(refused(BadRows, "row", call, ((), ((True, 0),))), 1)
                self.assertEqual(refused(BadRows, "row", call, ((), (), ((0, False),))), 2)
        self.assertEqual(refused(BadPicture, "part", judged, MACHINE, ((0, True), *PICTURE[1:])), 0)
        self.assertEqual(refused(BadPicture, "part", judged, MACHINE, (*PICTURE[:3], ((0, False),))), 3)
        self.assertEqual(refused(BadLists, "room", looked, 2, (*FORMS, ("same", True)), 0, 0), 4)
        refused(BadRoom, None, looked, 2, FORMS, True, 0)
        refused(BadLetter, None, looked, 2, FORMS, 0, False)
        refused(BadWays, None, Pressed, MACHINE, (True,))
        self.assertEqual(refused(BadMachine, "row", by_pairs, (1, ((0,), (False,)), ())), 1)
        self.assertEqual(refused(BadWord, "place", run_by_pairs, MACHINE, [0, True]), 1)
        self.assertEqual(refused(BadList, "number", Finder, True, [(0,)]), 0)
        self.assertEqual(refused(BadList, "number", Finder, 2, [(0,), (True,)]), 1)
        self.assertEqual(refused(BadWord, "place", Finder(2, [(0,)]).found, [0, 0, True]), 2)
        self.assertEqual(refused(BadStep, "number", played, MACHINE, (), [("tidy",), ("next", 0, False)]), 1)
        self.assertEqual(refused(BadPicture, "part", written, ((0, True), *PICTURE[1:])), 0)


class TestPresses(unittest.TestCase):
    def told(self, press):
        return [getattr(press, name)(*handed) for name, *handed in ASKED]

    def test_what_is_asked_changes_nothing(self):
        for ways in SETS_OF_WAYS:
            press = Pressed(MACHINE, ways)
            for _ in range(3):
                for name, *handed in ASKED:
                    before = copy.deepcopy(handed)
                    getattr(press, name)(*handed)
                    self.assertEqual(repr(handed), repr(before))
                self.assertEqual(self.told(press), self.told(Pressed(MACHINE, ways)))

    def test_what_is_refused_changes_nothing(self):
        for ways in SETS_OF_WAYS:
            press = Pressed(MACHINE, ways)
            before = self.told(press)
            for kind, name, *handed in NOT_DONE:
                kept = copy.deepcopy(handed)
                refused(kind, None, getattr(press, name), *handed)
                self.assertEqual(repr(handed), repr(kept))
                self.assertEqual(self.told(press), before)

    def test_a_word_is_not_kept(self):
        for ways in SETS_OF_WAYS:
            press = Pressed(MACHINE, ways)
            word = [0, 1, 0]
            told = press.run(word)
            word.append(1)
            self.assertEqual(told, ([0, 1, 1, 0], "bad"))
            self.assertEqual(press.run([0, 1, 0]), told)

    def test_told_rooms_may_be_changed(self):
        for ways in SETS_OF_WAYS:
            press = Pressed(MACHINE, ways)
            for word in ([], [0, 1, 0], [1]):
                before = run(MACHINE, word)
                for _ in range(2):
                    told = press.run(word)
                    self.assertEqual(told, before)
                    told[0].append(99)
                    told[0][0] = None
            self.assertEqual(press.machine(), MACHINE)

    def test_the_machine_that_was_handed_in_stays(self):
        for ways in SETS_OF_WAYS:
            machine = copy.deepcopy(MACHINE)
            press = Pressed(machine, ways)
            for step in ((0, 1, 0), (1, 1, None), (0, 0, None), (1, 0, 1)):
                press.change(*step)
            press.tidy()
            self.assertEqual(machine, MACHINE)

    def test_what_was_told_ahead_of_a_change_stays(self):
        for ways in SETS_OF_WAYS:
            press = Pressed(MACHINE, ways)
            told = self.told(press)
            before = copy.deepcopy(told)
            press.change(0, 0, None)
            press.change(1, 1, 0)
            press.tidy()
            self.assertEqual(told, before)

    def test_two_presses_of_one_machine_do_not_touch_each_other(self):
        for ways in SETS_OF_WAYS:
            one, other = Pressed(MACHINE, ways), Pressed(MACHINE, ways)
            before = self.told(other)
            one.change(0, 1, 1)
            one.change(1, 0, None)
            self.assertEqual(self.told(other), before)
            one.tidy()
            self.assertEqual(self.told(other), before)
            other.change(0, 0, 0)
            self.assertEqual(one.machine(), changed(changed(MACHINE, 0, 1, 1), 1, 0, None))
            self.assertEqual(other.machine(), changed(MACHINE, 0, 0, 0))
            self.assertEqual(self.told(Pressed(MACHINE, ways)), before)


if __name__ == "__main__":
    unittest.main()
