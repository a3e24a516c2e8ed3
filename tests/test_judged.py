"""Point 14: pictures, BadPicture with its `part`, and judged."""

import random
import unittest

from pressedtables.errors import BadMachine, BadPicture
from pressedtables.judging import judged
from pressedtables.pressed import Pressed
from tests.machines import NO_MACHINES, chance_machine
from tests.pictures import NO_FOURS, NO_PARTS, OTHER_COUNTS, PARTS, with_part
from tests.presses import ALL_WAYS, SETS_OF_WAYS, chance_change, changed
from tests.refusals import refused

MACHINE = (2, ((1, None), (1, None), (None, None)), (2,))
LIKE = (1, ((0,), (0,), (0,), (0,), (0,)), ())


def of_faults(faults, cells=()):
    """A picture of LIKE, its first room's cell at 0."""
    return ((0,), faults, (0,) * 5, cells)


def told_by(picture, room, letter):
    """What a picture tells, read as the document says."""
    classes, faults, bases, cells = picture
    while room is not None:
        at = bases[room] + classes[letter]
        cell = cells[at] if at < len(cells) else None
        if cell is not None and cell[0] == room:
            return cell[1]
        room = faults[room]
    return None


class TestJudged(unittest.TestCase):
    def test_none_for_each_press(self):
        chance = random.Random(140)
        for _ in range(40):
            machine = chance_machine(chance, chance.randint(1, 6), chance.randint(1, 6))
            for ways in ALL_WAYS:
                self.assertIsNone(judged(machine, Pressed(machine, ways).picture()))

    def test_bounds(self):
        machine = chance_machine(random.Random(141), 30, 40)
        for ways in SETS_OF_WAYS:
            picture = Pressed(machine, ways).picture()
            self.assertIsNone(judged(machine, picture))
            goal = machine[1][39][29]
            other = changed(machine, 39, 29, 7 if goal is None else None)
            self.assertEqual(judged(other, picture), ("otherwise", 39, 29))

    def test_the_finals_are_not_asked(self):
        picture = Pressed(MACHINE, ()).picture()
        self.assertIsNone(judged((2, MACHINE[1], (0, 1)), picture))

    def test_not_only_presses_as_made_here(self):
        self.assertIsNone(judged(MACHINE, ((0, 1), (None, 0, None), (0, 2, 4), ((0, 1),))))
        self.assertIsNone(judged(MACHINE, ((0, 1), (1, None, None), (0, 0, 9999), ((1, 1),))))
        self.assertIsNone(judged(MACHINE, ((7, 99), (1, None, None), (0, 2, 4), (None,) * 9 + ((1, 1),))))
        self.assertIsNone(judged(MACHINE, ((0, 1), (1, None, 0), (9, 0, 3), ((1, 1), None, None, (2, None), None))))

    def test_otherwise_the_first_as_rooms_then_letters_rise(self):
        picture = Pressed(MACHINE, ("classes", "faults", "laid")).picture()
        for room in range(3):
            for letter in range(2):
                for goal in (None, 0, 2):
                    if goal != MACHINE[1][room][letter]:
                        machine = changed(MACHINE, room, letter, goal)
                        self.assertEqual(judged(machine, picture), ("otherwise", room, letter))
        machine = changed(changed(MACHINE, 1, 1, 2), 2, 0, 2)
        self.assertEqual(judged(machine, picture), ("otherwise", 1, 1))
        machine = changed(changed(MACHINE, 0, 1, 2), 1, 0, 2)
        self.assertEqual(judged(machine, picture), ("otherwise", 0, 1))
        machine = changed(changed(MACHINE, 2, 1, 2), 2, 0, 2)
        self.assertEqual(judged(machine, picture), ("otherwise", 2, 0))

    def test_none_is_otherwise_than_room_0(self):
        self.assertEqual(judged((1, ((0,),), ()), ((0,), (None,), (0,), ())), ("otherwise", 0, 0))
        self.assertEqual(judged((1, ((None,),), ()), ((0,), (None,), (0,), ((0, 0),))), ("otherwise", 0, 0))
        self.assertIsNone(judged((1, ((None,),), ()), ((0,), (None,), (0,), ((0, None),))))

    def test_cells_beyond_the_last_are_free(self):
        self.assertIsNone(judged((1, ((None,),), ()), ((99,), (None,), (9999,), ())))
        self.assertIsNone(judged((1, ((None,),), ()), ((1,), (None,), (0,), ((0, 0),))))
        self.assertIsNone(judged((1, ((0,), (0,)), ()), ((1,), (1, None), (9999, 0), (None, (1, 0)))))

    def test_a_cell_of_another_rooms_is_not_the_rooms(self):
        machine = (1, ((0,), (None,)), ())
        self.assertIsNone(judged(machine, ((0,), (None, None), (0, 0), ((0, 0),))))
        self.assertEqual(judged(machine, ((0,), (None, None), (0, 0), ((1, 0),))), ("otherwise", 0, 0))
        self.assertIsNone(judged((1, ((0,), (0,)), ()), ((0,), (None, 0), (0, 0), ((0, 0),))))

    def test_an_entry_of_none_ends_what_a_fault_tells(self):
        machine = (1, ((0,), (None,), (None,)), ())
        self.assertIsNone(judged(machine, ((0,), (None, 0, 1), (0, 1, 9), ((0, 0), (1, None)))))

    def test_one_cell_for_two_letters(self):
        self.assertIsNone(judged((2, ((0, 0),), ()), ((5, 5), (None,), (0,), (None,) * 5 + ((0, 0),))))
        self.assertEqual(judged((2, ((0, None),), ()), ((0, 0), (None,), (0,), ((0, 0),))), ("otherwise", 0, 1))

    def test_drawn_pictures(self):
        chance = random.Random(142)
        seen = set()
        for _ in range(800):
            rooms, letters = chance.randint(1, 4), chance.randint(1, 3)
            machine = chance_machine(chance, letters, rooms)
            picture = Pressed(machine, chance.choice(SETS_OF_WAYS)).picture()
            for _ in range(chance.randint(0, 2)):
                part = chance.randrange(4)
                if picture[part]:
                    at = chance.randrange(len(picture[part]))
                    worth = [chance.randrange(3), chance.choice([None, *range(rooms)]), chance.randrange(6)]
                    worth.append(chance.choice([None, (chance.randrange(rooms), chance.choice([None, *range(rooms)]))]))
                    changed_part = (*picture[part][:at], worth[part], *picture[part][at + 1:])
                    picture = with_part(part, changed_part, picture)
            told = judged(machine, picture)
            ringed = [room for room in range(rooms) if self.comes_back(picture[1], room)]
            seen.add(told and told[0])
            if ringed:
                self.assertEqual(told, ("ring", ringed[0]))
                continue
            table = [(room, letter) for room in range(rooms) for letter in range(letters)]
            unlike = [at for at in table if told_by(picture, *at) != machine[1][at[0]][at[1]]]
            self.assertEqual(told, ("otherwise", *unlike[0]) if unlike else None)
        self.assertEqual(seen, {None, "ring", "otherwise"})

    def comes_back(self, faults, room):
        behind = faults[room]
        for _ in faults:
            if behind is None or behind == room:
                break
            behind = faults[behind]
        return behind == room

    def test_behind_changes(self):
        chance = random.Random(143)
        for ways in SETS_OF_WAYS:
            machine = chance_machine(chance, 5, 6)
            press = Pressed(machine, ways)
            for _ in range(40):
                step = chance_change(chance, machine)
                before, machine = machine, changed(machine, *step)
                press.change(*step)
                self.assertIsNone(judged(machine, press.picture()))
                told = None if before == machine else ("otherwise", *step[:2])
                self.assertEqual(judged(before, press.picture()), told)


class TestRings(unittest.TestCase):
    def ringed(self, faults, room, machine=LIKE):
        for cells in ((), ((0, 0),), ((4, 1), None)):
            self.assertEqual(judged(machine, ((0,), faults, (0,) * len(faults), cells)), ("ring", room))

    def test_of_the_room_itself(self):
        for room in range(5):
            self.ringed(tuple(room if at == room else None for at in range(5)), room)
        self.assertEqual(judged((1, ((0,),), ()), ((0,), (0,), (0,), ((0, 0),))), ("ring", 0))

    def test_of_two(self):
        self.ringed((1, 0, None, None, None), 0)
        self.ringed((None, None, None, 4, 3), 3)
        self.ringed((None, 4, None, None, 1), 1)

    def test_of_three(self):
        self.ringed((None, 2, 3, 1, None), 1)
        self.ringed((None, None, 4, 2, 3), 2)

    def test_of_all_rooms(self):
        self.ringed((1, 2, 3, 4, 0), 0)
        self.ringed((4, 0, 1, 2, 3), 0)
        forty = (1, ((0,),) * 40, ())
        self.ringed(tuple((room + 7) % 40 for room in range(40)), 0, forty)

    def test_rooms_led_on_to_a_ring_are_not_in_it(self):
        self.ringed((1, 2, 1, None, None), 1)
        self.ringed((4, 4, 4, 4, 3), 3)
        self.ringed((*range(1, 40), 38), 38, (1, ((0,),) * 40, ()))
        self.ringed((4, 4, 4, 4, 4), 4)

    def test_two_rings(self):
        self.ringed((None, 4, 3, 2, 1), 1)
        self.ringed((1, 0, None, 4, 3), 0)
        self.ringed((None, 2, 1, 3, None), 1)
        self.ringed((None, 1, 3, 2, None), 1)

    def test_never_come_to(self):
        # Each room has its own cell, so that no fault is ever asked.
        picture = ((0,), (None, None, 3, 4, 2), (0, 1, 2, 3, 4), tuple((room, 0) for room in range(5)))
        self.assertEqual(judged(LIKE, picture), ("ring", 2))

    def test_ahead_of_what_is_told_otherwise(self):
        self.assertEqual(judged(LIKE, of_faults((None, None, None, None, 4))), ("ring", 4))
        self.assertEqual(judged(LIKE, of_faults((None, None, None, None, 3))), ("otherwise", 0, 0))

    def test_tuples(self):
        self.assertIs(type(judged(LIKE, of_faults((0,) * 5))), tuple)
        self.assertIs(type(judged(LIKE, of_faults((None,) * 5))), tuple)


class TestRefused(unittest.TestCase):
    def part_of(self, picture):
        return refused(BadPicture, "part", judged, MACHINE, picture)

    def test_no_tuple_of_four(self):
        for picture in NO_FOURS:
            with self.subTest(picture):
                self.assertEqual(self.part_of(picture), 4)

    def test_each_part(self):
        self.assertIsNone(judged(MACHINE, PARTS))
        for part in range(4):
            for wrong in (*NO_PARTS[part], *OTHER_COUNTS.get(part, ())):
                with self.subTest(part, wrong=wrong):
                    self.assertEqual(self.part_of(with_part(part, wrong)), part)

    def test_the_first_part_of_several(self):
        for first in range(4):
            for second in range(first + 1, 4):
                with self.subTest(first, second=second):
                    picture = with_part(first, NO_PARTS[first][-1], with_part(second, NO_PARTS[second][3]))
                    self.assertEqual(self.part_of(picture), first)
        self.assertEqual(self.part_of((None,) * 4), 0)
        self.assertEqual(self.part_of((None,) * 5), 4)

    def test_refused_ahead_of_a_ring(self):
        self.assertEqual(self.part_of(with_part(1, (0, 1, 2), with_part(3, (0,)))), 3)

    def test_bounds_that_are_let_by(self):
        self.assertIsNone(judged(MACHINE, with_part(0, (0, 99))))
        self.assertEqual(judged(MACHINE, with_part(0, (99, 1))), ("otherwise", 0, 0))
        self.assertIsNone(judged(MACHINE, with_part(2, (0, 2, 9999))))
        self.assertIsNone(judged(MACHINE, with_part(3, PARTS[3] + (None,) * 3996)))
        self.assertEqual(self.part_of(with_part(3, PARTS[3] + (None,) * 3997)), 3)
        self.assertEqual(judged(MACHINE, with_part(3, PARTS[3] + ((2, 2),) * 3996)), ("otherwise", 2, 0))
        picture = ((99, 98), (None, 0, None), (3900, 2, 4), (None,) * 3999 + ((0, 1),))
        self.assertIsNone(judged(MACHINE, picture))

    def test_letters_and_rooms_are_the_machines(self):
        widest = (30, ((None,) * 30,) * 40, ())
        picture = ((99,) * 30, (*range(1, 40), None), (9999,) * 40, ((39, 39),) * 4000)
        self.assertIsNone(judged(widest, picture))
        self.assertEqual(refused(BadPicture, "part", judged, widest, with_part(3, ((40, 0),), picture)), 3)
        self.assertEqual(refused(BadPicture, "part", judged, widest, with_part(1, (40,) * 40, picture)), 1)
        self.assertEqual(refused(BadPicture, "part", judged, (29, ((None,) * 29,) * 40, ()), picture), 0)
        self.assertEqual(refused(BadPicture, "part", judged, (30, ((None,) * 30,) * 39, ()), picture), 1)

    def test_the_machine_ahead_of_the_picture(self):
        for machine, row in NO_MACHINES:
            for picture in (None, PARTS, ((0,), (0,), (0,), ())):
                with self.subTest(machine, picture=picture):
                    self.assertEqual(refused(BadMachine, "row", judged, machine, picture), row)


if __name__ == "__main__":
    unittest.main()
