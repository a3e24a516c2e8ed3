"""Point 1, over the whole program: however a table is pressed, and changed in place, it's the same machine."""

import copy
import pathlib
import random
import re
import unittest

from pressedtables.classes import classed
from pressedtables.faults import entries, tree
from pressedtables.finder import Finder
from pressedtables.judging import judged
from pressedtables.laying import laid
from pressedtables.listing import listed, looked
from pressedtables.merging import merged
from pressedtables.notes import read, written
from pressedtables.pairs import by_pairs, run_by_pairs
from pressedtables.plain import apart, run
from pressedtables.plays import played
from pressedtables.pressed import Pressed
from tests.machines import chance_machine, lock, ring
from tests.presses import SETS_OF_WAYS, chance_change, changed

PACKAGE = pathlib.Path(__file__).resolve().parent.parent / "pressedtables"


def machines():
    chance = random.Random(200)
    yield from (ring(40, (3,)), lock([0, 2, 1, 0], 3, (4,)), (1, ((None,),), (0,)), (30, ((None,) * 30,) * 40, ()))
    yield chance_machine(chance, 30, 40)
    for _ in range(25):
        machine = chance_machine(chance, chance.randint(1, 6), chance.randint(1, 6))
        yield machine
        # With letters and rooms that are alike.
        columns = [chance.randrange(machine[0]) for _ in range(chance.randint(1, 8))]
        table = tuple(tuple(row[at] for at in columns) for row in machine[1])
        yield (len(columns), table + table[:2], machine[2])


def words_for(chance, machine):
    """Drawn words, some of them broken, and some long."""
    yield []
    for count in (1, 2, 3, 5, 8, 13, 200):
        yield [chance.randrange(machine[0]) for _ in range(count)]
    # Mostly letters that go on, so that words are long before they break.
    room, word = 0, []
    while len(word) < 60:
        on = [letter for letter, goal in enumerate(machine[1][room]) if goal is not None]
        if not on:
            break
        word.append(chance.choice(on))
        room = machine[1][room][word[-1]]
    yield word
    yield word + [chance.randrange(machine[0])]


class TestTheSameMachine(unittest.TestCase):
    def as_plain(self, chance, machine, press):
        self.assertEqual(press.machine(), machine)
        self.assertIsNone(judged(machine, press.picture()))
        self.assertIsNone(judged(machine, read(written(press.picture()))))
        for word in words_for(chance, machine):
            self.assertEqual(press.run(word), run(machine, word))

    def by_all_means(self, chance, machine):
        classes, by_classes = classed(machine)
        numbers, by_merging = merged(machine)
        forms = listed(machine)[1]
        self.assertIsNone(apart(machine, by_merging))
        for word in words_for(chance, machine):
            rooms, told = run(machine, word)
            self.assertEqual(run(by_classes, [classes[letter] for letter in word]), (rooms, told))
            self.assertEqual(run(by_merging, word), ([numbers[room] for room in rooms], told))
            behind = [room for place, room in enumerate(rooms) if place % 2 == 0 or place == len(word)]
            self.assertEqual(run_by_pairs(machine, word)[:2], (behind, told))
            self.assertEqual(self.by_forms(machine, forms, word), (rooms, told))

    def by_forms(self, machine, forms, word):
        rooms = [0]
        for letter in word:
            goal = looked(machine[0], forms, rooms[-1], letter)
            if goal is None:
                return rooms, "broken"
            rooms.append(goal)
        return rooms, "good" if rooms[-1] in machine[2] else "bad"

    def test_pressed(self):
        chance = random.Random(201)
        for machine in machines():
            self.by_all_means(chance, machine)
            for ways in SETS_OF_WAYS:
                self.as_plain(chance, machine, Pressed(machine, ways))

    def test_changed_and_tidied(self):
        chance = random.Random(202)
        for first in list(machines())[5:40]:
            for ways in SETS_OF_WAYS:
                machine = first
                press = Pressed(machine, ways)
                steps = []
                for _ in range(12):
                    step = chance_change(chance, machine)
                    machine = changed(machine, *step)
                    press.change(*step)
                    steps.append(("change", *step))
                self.as_plain(chance, machine, press)
                self.assertEqual(played(first, ways, steps)[1].picture(), press.picture())
                press.tidy()
                self.assertEqual(press.picture(), Pressed(machine, ways).picture())
                self.as_plain(chance, machine, press)
            self.by_all_means(chance, machine)

    def test_presses_of_pressed_machines(self):
        chance = random.Random(203)
        for machine in list(machines())[5:30]:
            numbers, by_merging = merged(machine)
            classes, by_classes = classed(by_merging)
            press = Pressed(by_classes, ("faults", "laid"))
            for word in words_for(chance, machine):
                told = press.run([classes[letter] for letter in word])
                rooms, how = run(machine, word)
                self.assertEqual(told, ([numbers[room] for room in rooms], how))

    def test_the_press_by_all_ways_has_no_more_entries(self):
        for machine in machines():
            plain = Pressed(machine, ()).size()
            for ways in SETS_OF_WAYS:
                self.assertLessEqual(Pressed(machine, ways).size()[1], plain[1])

    def test_finders(self):
        chance = random.Random(204)
        for letters, words in (
            (2, [(0, 1), (1, 1, 0), (1,)]), (3, [(0, 1, 2, 0), (1, 2), (2, 0, 1), (0,)]), (1, [(0,) * 3, (0,)]),
            (30, [(29, 28, 29), (28,), (29, 29)]), (4, [(0,) * 12, (1,) * 12, (2,) * 12, (3,) * 3]),
        ):
            finder = Finder(letters, words)
            machine = finder.machine()
            self.by_all_means(chance, machine)
            for ways in SETS_OF_WAYS:
                press = Pressed(machine, ways)
                self.as_plain(chance, machine, press)
                for _ in range(20):
                    text = [chance.randrange(letters) for _ in range(chance.randint(0, 12))]
                    text += chance.choice([[], list(chance.choice(words))])
                    behind = [place for place, _ in finder.found(text)]
                    for place in range(1, len(text) + 1):
                        self.assertEqual(press.run(text[:place])[1], "good" if place in behind else "bad")
                    finals = [place for place, room in enumerate(press.run(text)[0]) if room in machine[2]]
                    self.assertEqual(finals, sorted(set(behind)))


class TestAskedAgain(unittest.TestCase):
    def spoil(self, told):
        """Change whatever may be changed in it."""
        if isinstance(told, tuple):
            for part in told:
                self.spoil(part)
        if isinstance(told, list):
            told.reverse()
            told.append(99)
            told[0] = None

    def test_the_same_is_told(self):
        for machine in list(machines())[:12]:
            finder = Finder(2, [(0, 1), (1, 1, 0), (1,)])
            other = changed(machine, 0, 0, None if machine[1][0][0] is not None else 0)
            picture = Pressed(machine, ("classes", "faults", "laid")).picture()
            forms = listed(machine)[1]
            word = [0] * 7
            calls = [
                (run, machine, word), (apart, machine, other), (classed, machine), (merged, machine), (tree, machine),
                (entries, machine, picture[1]), (laid, entries(machine, (None,) * len(machine[1]))), (listed, machine),
                (looked, machine[0], forms, 0, 0), (by_pairs, machine), (run_by_pairs, machine, word),
                (judged, machine, picture), (judged, other, picture), (written, picture), (read, written(picture)),
                (finder.found, [0, 1, 1, 0]), (finder.machine,), (finder.suffixes,), (finder.many_steps, [0, 1, 1, 0]),
            ]
            for ways in SETS_OF_WAYS:
                press = Pressed(machine, ways)
                press.change(0, 0, other[1][0][0])
                calls += [(press.next, 0, 0), (press.run, word), (press.machine,), (press.size,), (press.picture,)]
            before = [copy.deepcopy(call(*handed)) for call, *handed in calls]
            for _ in range(2):
                for (call, *handed), told in zip(calls, before):
                    again = call(*handed)
                    self.assertEqual(repr(again), repr(told))
                    self.spoil(again)
            self.assertEqual(word, [0] * 7)

    def test_plays(self):
        steps = [("change", 0, 0, 1), ("next", 0, 0), ("tidy",), ("next", 9, 9)]
        for ways in SETS_OF_WAYS:
            before = [1, 1, Pressed((2, ((1, None), (0, 1)), ()), ways).size(), "no"]
            for _ in range(3):
                told, press = played((2, ((None, None), (0, 1)), ()), ways, steps)
                self.assertEqual((told[1:], press.machine()), (before[1:], (2, ((1, None), (0, 1)), ())))
                self.spoil(told)
                press.change(1, 1, None)


class TestNothingFromOutside(unittest.TestCase):
    def test_no_clock_no_chance_and_no_files(self):
        for path in sorted(PACKAGE.glob("*.py")):
            for line in path.read_text("utf-8").splitlines():
                if re.match(r"\s*(import|from)\b", line):
                    self.assertRegex(line, r"^from pressedtables\.\w+ import ", path.name)
                self.assertNotRegex(line, r"\b(open|input|print|eval|exec|__import__|hash|id)\(", path.name)


if __name__ == "__main__":
    unittest.main()
