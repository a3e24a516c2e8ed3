"""Point 18: steps, BadStep with its `number`, and played."""

import copy
import random
import unittest

from pressedtables.errors import BadMachine, BadStep, BadWays
from pressedtables.judging import judged
from pressedtables.plays import played
from pressedtables.pressed import Pressed
from tests.machines import NO_MACHINES, chance_machine
from tests.presses import SETS_OF_WAYS, PlainPress, chance_change, changed
from tests.refusals import refused

MACHINE = (3, ((1, None, 1), (0, 0, 0), (1, 2, 1)), (1,))
NO_NUMBERS = (-1, 100, True, False, "0", (0,), [0], [], 1000)
NO_STEPS = (
    None, 0, True, "tidy", [], ["tidy"], ["next", 0, 0], (), ("",), ("Tidy",), ("tidies",), ("run", [0]), ("size",),
    ("machine",), ("picture",), (None,), (0,), (True,), (("tidy",),), (["tidy"],), ("tidy", None), ("tidy", 0),
    ("next",), ("next", 0), ("next", 0, 0, 0), ("next", 0, 0, None), ("change",), ("change", 0), ("change", 0, 0),
    ("change", 0, 0, 0, 0), ("change", 0, 0, None, None), (0, "next", 0), ("next", None, 0), ("next", 0, None),
    ("change", None, 0, 0), ("change", 0, None, 0),
) + tuple(
    step for wrong in NO_NUMBERS for step in (
        ("next", wrong, 0), ("next", 0, wrong), ("change", wrong, 0, 0), ("change", 0, wrong, 0),
        ("change", 0, 0, wrong),
    )
)


class TestPlayed(unittest.TestCase):
    def told(self, steps, *ways):
        return played(MACHINE, ways, steps)[0]

    def test_no_steps(self):
        for ways in SETS_OF_WAYS:
            told, press = played(MACHINE, ways, [])
            self.assertEqual(told, [])
            self.assertEqual(press.picture(), Pressed(MACHINE, ways).picture())

    def test_next(self):
        self.assertEqual(self.told([("next", 0, 0)]), [1])
        self.assertEqual(self.told([("next", 0, 1), ("next", 2, 1)], "faults", "laid"), [None, 2])

    def test_change(self):
        self.assertEqual(self.told([("change", 0, 0, 1)]), [0])
        steps = [("change", 0, 0, 2), ("next", 0, 0), ("change", 0, 0, None), ("next", 0, 0)]
        self.assertEqual(self.told(steps), [1, 2, 1, None])
        self.assertEqual(self.told([("change", 0, 2, 0), ("next", 0, 2)], "classes", "faults", "laid"), [4, 0])

    def test_tidy(self):
        self.assertEqual(self.told([("tidy",)]), [(3, 8, 9)])
        steps = [("tidy",), ("change", 0, 2, 0), ("tidy",), ("tidy",)]
        self.assertEqual(self.told(steps, "classes", "faults", "laid"), [(2, 4, 4), 4, (3, 6, 7), (3, 6, 7)])

    def test_no_for_what_is_refused(self):
        for step in (
            ("next", 3, 0), ("next", 0, 3), ("next", 99, 99), ("change", 3, 0, 0), ("change", 0, 3, 0),
            ("change", 0, 0, 3), ("change", 0, 0, 99), ("change", 99, 0, None), ("change", 0, 99, None),
            ("change", 99, 99, 99),
        ):
            for ways in SETS_OF_WAYS:
                with self.subTest(step, ways=ways):
                    told, press = played(MACHINE, ways, [step])
                    self.assertEqual(told, ["no"])
                    self.assertEqual(press.picture(), Pressed(MACHINE, ways).picture())

    def test_a_tuple_of_steps(self):
        self.assertEqual(self.told((("next", 0, 0), ("tidy",))), [1, (3, 8, 9)])
        self.assertEqual(self.told(()), [])

    def test_steps_go_on_behind_no(self):
        steps = [("change", 0, 0, 2), ("change", 0, 0, 7), ("next", 0, 0), ("next", 7, 0), ("change", 0, 0, 1)]
        steps.append(("tidy",))
        self.assertEqual(self.told(steps), [1, "no", 2, "no", 1, (3, 8, 9)])

    def test_bounds(self):
        machine = (30, ((None,) * 30,) * 40, ())
        steps = [("change", 39, 29, 39), ("next", 39, 29), ("next", 40, 0), ("next", 0, 30), ("change", 0, 0, 40)]
        self.assertEqual(played(machine, (), steps)[0], [1, 39, "no", "no", "no"])

    def test_three_hundred_steps(self):
        steps = [("change", 0, 0, number % 3) for number in range(300)]
        told, press = played(MACHINE, (), steps)
        self.assertEqual(told, [1] * 300)
        self.assertEqual(press.next(0, 0), 2)

    def test_drawn_steps(self):
        chance = random.Random(180)
        for _ in range(20):
            first = chance_machine(chance, chance.randint(1, 6), chance.randint(1, 6))
            for ways in SETS_OF_WAYS:
                machine, plain = first, PlainPress(first, ways)
                steps, told = [], []
                for _ in range(40):
                    room, letter, goal = chance_change(chance, machine)
                    sort = chance.choice(["change", "change", "change", "next", "tidy", "no"])
                    if sort == "change":
                        machine = changed(machine, room, letter, goal)
                        told.append(plain.change(room, letter, goal))
                        steps.append(("change", room, letter, goal))
                    elif sort == "next":
                        told.append(machine[1][room][letter])
                        steps.append(("next", room, letter))
                    elif sort == "tidy":
                        plain = PlainPress(machine, ways)
                        told.append(plain.size())
                        steps.append(("tidy",))
                    else:
                        told.append("no")
                        wrong = [("change", room, letter, 50), ("next", room, 30), ("change", 40, letter, goal)]
                        steps.append(chance.choice(wrong))
                said, press = played(first, ways, steps)
                self.assertEqual(said, told)
                self.assertEqual(press.picture(), plain.picture())
                self.assertEqual(press.machine(), machine)
                self.assertIsNone(judged(machine, press.picture()))

    def test_the_press_goes_on(self):
        steps = [("change", 0, 2, 0), ("change", 1, 1, None), ("tidy",), ("change", 2, 0, 2)]
        for ways in SETS_OF_WAYS:
            _, press = played(MACHINE, ways, steps)
            other = Pressed(MACHINE, ways)
            for word, *numbers in steps:
                getattr(other, word)(*numbers)
            for _ in range(2):
                self.assertIs(type(press), Pressed)
                self.assertEqual(press.picture(), other.picture())
                self.assertEqual(press.change(0, 0, None), other.change(0, 0, None))
                self.assertEqual(press.run([0, 1]), other.run([0, 1]))
                self.assertEqual(press.tidy(), other.tidy())

    def test_kinds(self):
        told = played(MACHINE, (), [("tidy",)])
        self.assertEqual([type(told), type(told[0]), type(told[1])], [tuple, list, Pressed])

    def test_the_list_handed_in_stays(self):
        for steps in ([("change", 0, 0, 2), ("tidy",), ("next", 9, 9)], [("tidy",), None, []]):
            before = copy.deepcopy(steps)
            try:
                played(MACHINE, ("laid",), steps)
            except BadStep:
                pass
            self.assertEqual(steps, before)

    def test_lists_may_be_changed(self):
        steps = [("change", 0, 0, 2), ("next", 0, 0)]
        first, press = played(MACHINE, ("classes",), steps)
        before = press.picture()
        first.clear()
        steps.append(("change", 1, 1, 1))
        steps[0] = None
        self.assertEqual(press.picture(), before)
        again, other = played(MACHINE, ("classes",), [("change", 0, 0, 2), ("next", 0, 0)])
        self.assertEqual(again, [4, 2])
        self.assertEqual(other.picture(), before)
        other.change(0, 0, None)
        self.assertEqual(press.picture(), before)


class TestRefused(unittest.TestCase):
    def number_of(self, steps):
        return refused(BadStep, "number", played, MACHINE, ("classes",), steps)

    def test_no_step_at_the_first_a_middle_and_the_last_place(self):
        for wrong in NO_STEPS:
            for number in (0, 2, 4):
                steps = [("change", 0, 0, 0), ("next", 0, 0), ("tidy",), ("change", 1, 1, None), ("next", 99, 99)]
                steps[number] = wrong
                with self.subTest(wrong, number=number):
                    self.assertEqual(self.number_of(steps), number)

    def test_numbers_that_are_let_by(self):
        steps = [("change", 0, 0, None), ("change", 99, 99, 99), ("next", 99, 99), ("change", 0, 0, 0)]
        self.assertEqual(played(MACHINE, (), steps)[0], [1, "no", "no", 1])

    def test_the_first_of_several(self):
        self.assertEqual(self.number_of([("tidy",), ("next", 0), None, ()]), 1)

    def test_a_three_hundred_and_first(self):
        for last in (("tidy",), None, ("next", 0)):
            for count in (1, 2, 50):
                self.assertEqual(self.number_of([("next", 0, 0)] * 300 + [last] * count), 300)
        for number in (0, 150, 299):
            steps = [("next", 0, 0)] * 301
            steps[number] = ("next", 0, 100)
            self.assertEqual(self.number_of(steps), number)

    def test_what_holds_no_steps(self):
        for steps in (None, 0, True, "tidy"):
            with self.subTest(steps):
                self.assertEqual(self.number_of(steps), 0)

    def test_the_machine_ahead_of_the_ways_and_the_ways_ahead_of_the_steps(self):
        for machine, row in NO_MACHINES:
            for ways in ((), ("no",), None):
                for steps in ([], [None]):
                    with self.subTest(machine, ways=ways, steps=steps):
                        self.assertEqual(refused(BadMachine, "row", played, machine, ways, steps), row)
        for ways in (("no",), None, ["laid"], ("laid", "laid"), (True,)):
            for steps in ([], [None], [("tidy",)] * 301, None):
                with self.subTest(ways, steps=steps):
                    refused(BadWays, None, played, MACHINE, ways, steps)


if __name__ == "__main__":
    unittest.main()
