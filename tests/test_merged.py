"""Point 6: merged."""

import random
import unittest

from pressedtables.errors import BadMachine
from pressedtables.merging import merged
from pressedtables.plain import apart
from tests.machines import NO_MACHINES, begun_at, chance_machine, lock, renumbered, ring
from tests.refusals import refused


def line(rooms, first, last):
    """Rows of one letter, each led on to the next one, and the last one as told."""
    return [(first + at + 1,) for at in range(rooms - 1)] + [(last,)]


def two_lines(many, other):
    """Letter 0 enters a line of so many rooms, letter 1 another one; each ends in a hole."""
    rows = line(many, 1, None) + line(other, 1 + many, None)
    return (2, ((1, 1 + many), *((goal, goal) for goal, in rows)), ())


def come_to(machine):
    """The rooms that some word leads to, found without an order."""
    rooms = {0}
    for _ in machine[1]:
        rooms |= {goal for room in rooms for goal in machine[1][room] if goal is not None}
    return rooms


class TestMerged(unittest.TestCase):
    def told(self, machine, numbers, table, finals):
        self.assertEqual(merged(machine), (numbers, (machine[0], table, finals)))

    def stays(self, machine):
        self.assertEqual(merged(machine), (list(range(len(machine[1]))), machine))

    def test_nothing_can_be_put_together(self):
        self.stays((1, ((0,),), ()))
        self.stays((1, ((None,),), (0,)))
        self.stays((2, ((1, 2), (1, 0), (None, 1)), (1,)))
        self.stays((2, ((1, 2), (0, 2), (2, 2)), (1, 2)))

    def test_rooms_alike(self):
        self.told((2, ((1, 2), (0, 0), (0, 0)), ()), [0, 0, 0], ((0, 0),), ())
        self.told((2, ((1, 2), (0, 0), (0, 0)), (1, 2)), [0, 1, 1], ((1, 1), (0, 0)), (1,))
        self.told((2, ((1, 2), (3, 0), (3, 0), (None, 3)), (3,)), [0, 1, 1, 2], ((1, 1), (2, 0), (None, 2)), (2,))
        self.told((1, ((1,), (2,), (3,), (4,), (4,)), (0, 1, 2, 3, 4)), [0] * 5, ((0,),), (0,))

    def test_a_final_is_unlike_others(self):
        self.told((1, ((1,), (1,)), (0,)), [0, 1], ((1,), (1,)), (0,))
        self.told((1, ((1,), (1,)), (1,)), [0, 1], ((1,), (1,)), (1,))
        self.told((1, ((1,), (1,)), (0, 1)), [0, 0], ((0,),), (0,))

    def test_rooms_never_come_to(self):
        self.told((1, ((0,), (0,)), ()), [0, None], ((0,),), ())
        self.told((1, ((None,), (None,)), (0, 1)), [0, None], ((None,),), (0,))
        self.told((1, ((2,), (0,), (0,)), (1, 2)), [0, None, 1], ((1,), (0,)), (1,))
        self.told((2, ((3, None), (3, 1), (1, 1), (0, 3)), (0, 2)), [0, None, None, 1], ((1, None), (0, 1)), (0,))
        machine = (2, ((None, None), *((at, 0) for at in range(1, 40))), (5,))
        self.told(machine, [0] + [None] * 39, ((None, None),), ())

    def test_rooms_never_come_to_that_lead_to_others_and_are_alike(self):
        self.told((1, ((3,), (3,), (1,), (0,)), (3,)), [0, None, None, 1], ((1,), (0,)), (1,))

    def test_a_hole_is_no_room(self):
        self.stays((1, ((1,), (None,)), ()))
        self.told((2, ((1, 2), (None, None), (3, 3), (3, 3)), ()), [0, 1, 2, 2], ((1, 2), (None, None), (2, 2)), ())
        self.told((2, ((1, None), (1, 1)), ()), [0, 1], ((1, None), (1, 1)), ())
        self.told((2, ((1, 2), (1, None), (2, None)), ()), [0, 1, 1], ((1, 1), (1, None)), ())

    def test_only_a_long_word_tells_two_rooms_apart(self):
        self.stays(ring(40, (39,)))
        self.stays(ring(40, (0,)))
        self.stays((1, tuple(line(40, 0, None)), ()))
        self.stays((1, tuple(line(40, 0, None)), tuple(range(40))))
        self.stays((1, tuple(line(40, 0, 39)), (39,)))
        self.stays(lock([0] * 39, 2, (39,)))

    def test_two_long_lines_beside_one_another(self):
        numbers, machine = merged(two_lines(19, 19))
        self.assertEqual(numbers, [0, *range(1, 20), *range(1, 20)])
        self.assertEqual(machine, (2, ((1, 1), *((at, at) for at in range(2, 20)), (None, None)), ()))

    def test_two_long_lines_of_which_one_is_longer(self):
        numbers, machine = merged(two_lines(20, 19))
        # The lines are entered at rooms 1 and 21; room 2 is alike to 21, and is come to after it.
        self.assertEqual(numbers, [0, *range(1, 21), *range(2, 21)])
        self.assertEqual(machine, (2, ((1, 2), (2, 2), *((at, at) for at in range(3, 21)), (None, None)), ()))

    def test_two_long_lines_that_end_unlike(self):
        letters, table, _ = two_lines(19, 20)
        self.assertEqual(len(merged((letters, table, ()))[1][1]), 21)
        self.assertEqual(len(merged((letters, table, (19,)))[1][1]), 40)
        self.assertEqual(len(merged((letters, table, (19, 39)))[1][1]), 21)
        # Without a hole at its end, and without finals, the longer line is one room.
        self.assertEqual(len(merged((letters, (*table[:-1], (39, 39)), ()))[1][1]), 1 + 19 + 1)
        self.assertEqual(len(merged((letters, (*table[:-1], (39, 39)), (39,)))[1][1]), 40)

    def test_rings(self):
        self.told(ring(40, ()), [0] * 40, ((0,),), ())
        self.told(ring(40, tuple(range(40))), [0] * 40, ((0,),), (0,))
        self.told(ring(40, tuple(range(0, 40, 2))), [0, 1] * 20, ((1,), (0,)), (0,))
        self.told(ring(39, tuple(range(2, 39, 3))), [0, 1, 2] * 13, ((1,), (2,), (0,)), (2,))

    def test_two_rings(self):
        rings = ((2, 2), (1, 1), (4, 4), (3, 3))
        self.told((2, ((1, 3), *rings), (1, 3)), [0, 1, 0, 1, 0], ((1, 1), (0, 0)), (1,))
        self.told((2, ((1, 3), *rings), (1, 4)), [0, 1, 2, 2, 1], ((1, 2), (2, 2), (1, 1)), (1,))
        self.told((2, ((1, None), *rings), (1,)), [0, 1, 2, None, None], ((1, None), (2, 2), (1, 1)), (1,))

    def test_numbered_as_they_are_come_to(self):
        self.told((2, ((2, 1), (None, 1), (2, None)), ()), [0, 2, 1], ((1, 2), (1, None), (None, 2)), ())
        # Room by room: 3 and 1 ahead of 2, to which 3 leads.
        table = ((3, 1), (None, 0), (None, None), (2, 2))
        self.told((2, table, ()), [0, 2, 3, 1], ((1, 2), (3, 3), (None, 0), (None, None)), ())

    def test_rooms_are_walked_as_they_are_come_to_not_by_their_numbers(self):
        # 4 is come to ahead of 1, so 5 to which it leads is numbered ahead of 2 to which 1 leads.
        table = ((4, 1), (2, None), (2, 0), (None, None), (None, 5), (5, 5))
        told = ((1, 2), (None, 3), (4, None), (3, 3), (4, 0))
        self.told((2, table, ()), [0, 2, 4, None, 1, 3], told, ())

    def test_the_first_room_of_a_merged_one_numbers_it(self):
        # 1 and 5 are put together; 5 is come to first, 1 but behind all others.
        table = ((5, 2), (None, None), (3, 3), (1, 2), (4, 4), (None, None))
        self.told((2, table, (0,)), [0, 1, 2, 3, None, 1], ((1, 2), (None, None), (3, 3), (1, 2)), (0,))

    def test_finals_rise_by_the_merged_numbers(self):
        table = ((3, 2), (1, None), (1, None), (None, 1))
        self.told((2, table, (1, 3)), [0, 3, 2, 1], ((1, 2), (None, 3), (3, None), (3, None)), (1, 3))

    def test_a_machine_of_forty_rooms_by_other_numbers(self):
        chance = random.Random(7)
        places = [0, *chance.sample(range(1, 40), 39)]
        self.assertEqual(merged(renumbered(ring(40, (7,)), places))[1], ring(40, (7,)))
        code = [chance.randrange(30) for _ in range(39)]
        machine = lock(code, 30, (39,))
        self.assertEqual(merged(renumbered(machine, places))[1], merged(machine)[1])
        self.assertEqual(len(merged(machine)[1][1]), 40)


class TestChanceMachines(unittest.TestCase):
    def machines(self):
        chance = random.Random(8)
        for _ in range(250):
            letters, table, finals = chance_machine(chance, chance.randint(1, 3), chance.randint(1, 9))
            few = tuple(tuple(None if goal is None else goal % 5 % len(table) for goal in row) for row in table)
            yield (letters, table, finals)
            yield (letters, few, chance.choice([finals, (), tuple(range(len(table)))]))

    def test_it_is_the_same_machine(self):
        for machine in self.machines():
            self.assertIsNone(apart(machine, merged(machine)[1]), machine)

    def test_rooms_are_put_together_just_if_no_word_tells_them_apart(self):
        put_together = 0
        for machine in self.machines():
            numbers = merged(machine)[0]
            rooms = come_to(machine)
            self.assertEqual({room for room, number in enumerate(numbers) if number is not None}, rooms)
            for room in rooms:
                for other in rooms - {room}:
                    alike = apart(begun_at(machine, room), begun_at(machine, other)) is None
                    self.assertEqual(numbers[room] == numbers[other], alike, (machine, room, other))
                    put_together += alike
        self.assertGreater(put_together, 100)

    def test_numbers_first_come_up_rising_in_the_table(self):
        for machine in self.machines():
            numbers, (letters, table, finals) = merged(machine)
            firsts = list(dict.fromkeys([0] + [goal for row in table for goal in row if goal is not None]))
            self.assertEqual(firsts, list(range(len(table))), machine)
            for room, number in enumerate(numbers):
                if number is not None:
                    row = tuple(None if goal is None else numbers[goal] for goal in machine[1][room])
                    self.assertEqual(table[number], row)
                    self.assertEqual(number in finals, room in machine[2])
            self.assertEqual(finals, tuple(sorted(finals)))

    def test_merged_again_it_stays(self):
        for machine in self.machines():
            once = merged(machine)[1]
            self.assertEqual(merged(once), (list(range(len(once[1]))), once))


class TestKinds(unittest.TestCase):
    def test_a_list_and_a_machine_of_tuples(self):
        told = merged((1, ((0,), (0,)), (0, 1)))
        self.assertIs(type(told), tuple)
        self.assertIs(type(told[0]), list)
        self.assertIs(type(told[1]), tuple)
        self.assertIs(type(told[1][1]), tuple)
        self.assertIs(type(told[1][1][0]), tuple)
        self.assertIs(type(told[1][2]), tuple)

    def test_no_machine(self):
        for machine, row in NO_MACHINES:
            with self.subTest(machine):
                self.assertEqual(refused(BadMachine, "row", merged, machine), row)


if __name__ == "__main__":
    unittest.main()
