"""Point 13: tidy."""

import random
import unittest

from pressedtables.judging import judged
from pressedtables.pressed import Pressed
from tests.machines import chance_machine
from tests.presses import ALL_WAYS, SETS_OF_WAYS, PlainPress, chance_change, changed

MACHINE = (3, ((1, 1, 1), (None, None, None), (0, 0, 0)), (0,))


class TestTidy(unittest.TestCase):
    def as_new(self, press, machine, ways):
        new = Pressed(machine, ways)
        self.assertEqual(press.picture(), new.picture())
        self.assertEqual(press.size(), new.size())
        self.assertEqual(press.machine(), machine)

    def test_untouched(self):
        for ways in ALL_WAYS:
            press = Pressed(MACHINE, ways)
            size = press.size()
            self.assertEqual(press.tidy(), size)
            self.as_new(press, MACHINE, ways)

    def test_letters_are_put_together_again(self):
        press = Pressed(MACHINE, ("classes",))
        press.change(1, 1, 2)
        press.change(1, 1, None)
        self.assertEqual(press.size(), (2, 4, 4))
        self.assertEqual(press.tidy(), (1, 2, 3))
        self.assertEqual(press.picture(), ((0, 0, 0), (None,) * 3, (0, 1, 2), ((0, 1), None, (2, 0))))

    def test_classes_are_numbered_anew(self):
        press = Pressed(MACHINE, ("classes",))
        press.change(0, 0, 2)
        self.assertEqual(press.picture()[0], (1, 0, 0))
        self.assertEqual(press.tidy(), (2, 4, 6))
        self.assertEqual(press.picture()[0], (0, 1, 1))

    def test_rooms_are_led_on_anew(self):
        press = Pressed((3, ((0, 0, 0), (1, 1, 1)), ()), ("faults",))
        self.assertEqual(press.picture()[1], (None, None))
        for letter in range(3):
            press.change(1, letter, 0)
        self.assertEqual(press.size(), (3, 6, 6))
        self.assertEqual(press.tidy(), (3, 3, 3))
        self.assertEqual(press.picture()[1], (None, 0))

    def test_rows_are_laid_anew(self):
        press = Pressed((2, ((0, 0), (1, None), (None, None)), ()), ("laid",))
        press.change(0, 0, None)
        press.change(0, 1, None)
        self.assertEqual(press.picture()[2:], ((0, 2, 0), (None, None, (1, 1))))
        self.assertEqual(press.tidy(), (2, 1, 1))
        self.assertEqual(press.picture()[2:], ((0, 0, 0), ((1, 1),)))

    def test_ways_that_were_not_told_are_not_gone(self):
        press = Pressed(MACHINE, ())
        press.change(0, 1, None)
        self.assertEqual(press.tidy(), (3, 5, 9))
        self.assertEqual(press.picture()[:3], ((0, 1, 2), (None,) * 3, (0, 3, 6)))

    def test_tuple(self):
        self.assertIs(type(Pressed(MACHINE, ("laid",)).tidy()), tuple)

    def test_behind_changes_and_changes_behind_it(self):
        chance = random.Random(130)
        for _ in range(30):
            first = chance_machine(chance, chance.randint(1, 6), chance.randint(1, 6))
            for ways in SETS_OF_WAYS:
                machine = first
                press = Pressed(machine, ways)
                for _ in range(4):
                    plain = PlainPress(machine, ways)
                    for _ in range(8):
                        step = chance_change(chance, machine)
                        machine = changed(machine, *step)
                        self.assertEqual(press.change(*step), plain.change(*step))
                        self.assertEqual(press.picture(), plain.picture())
                    for _ in range(2):
                        self.assertEqual(press.tidy(), Pressed(machine, ways).size())
                        self.as_new(press, machine, ways)
                        self.assertIsNone(judged(machine, press.picture()))


if __name__ == "__main__":
    unittest.main()
