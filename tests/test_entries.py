"""Point 7: faults, BadFaults with its `room`, and entries."""

import random
import unittest

from pressedtables.errors import BadFaults, BadMachine
from pressedtables.faults import entries
from tests.machines import NO_MACHINES, chance_machine
from tests.refusals import refused

NO_ROOMS = (True, False, -1, 5, 99, "1", (1,), [1], ())


def plain(rooms):
    return (1, ((0,),) * rooms, ())


def room_of(faults, rooms=5):
    return refused(BadFaults, "room", entries, plain(rooms), faults)


def faults_with(rooms, some):
    """So many faults, all None but those of the dict."""
    return tuple(some.get(room) for room in range(rooms))


def chain(rooms, step):
    """Each room led on to the one beside it, but the last one of them."""
    return tuple(room + step if 0 <= room + step < rooms else None for room in range(rooms))


def told_by(rows, faults, letters):
    """The table that entries tell, read as the document says."""
    table = []
    for room in range(len(faults)):
        row = []
        for letter in range(letters):
            at = room
            while at is not None and letter not in dict(rows[at]):
                at = faults[at]
            row.append(None if at is None else dict(rows[at])[letter])
        table.append(tuple(row))
    return tuple(table)


class TestEntries(unittest.TestCase):
    def test_without_a_fault_all_next_rooms_but_nones(self):
        machine = (3, ((0, None, 1), (None, None, None), (2, 1, 0)), ())
        told = (((0, 0), (2, 1)), (), ((0, 2), (1, 1), (2, 0)))
        self.assertEqual(entries(machine, (None,) * 3), told)

    def test_one_room(self):
        self.assertEqual(entries((1, ((0,),), (0,)), (None,)), (((0, 0),),))
        self.assertEqual(entries((1, ((None,),), (0,)), (None,)), ((),))

    def test_a_room_like_its_fault_has_none(self):
        machine = (2, ((0, None), (0, None), (0, None)), (1,))
        self.assertEqual(entries(machine, (None, 0, 1)), (((0, 0),), (), ()))
        self.assertEqual(entries(machine, (1, None, 0)), ((), ((0, 0),), ()))

    def test_where_it_is_unlike_its_fault(self):
        machine = (4, ((0, 1, 2, None), (0, 2, 2, 1), (1, 1, 2, None)), ())
        self.assertEqual(entries(machine, (None, 0, 0))[1:], (((1, 2), (3, 1)), ((0, 1),)))
        self.assertEqual(entries(machine, (1, None, 1))[0], ((1, 1), (3, None)))
        self.assertEqual(entries(machine, (1, None, 1))[2], ((0, 1), (1, 1), (3, None)))

    def test_none_where_the_fault_tells_a_room(self):
        machine = (2, ((None, None), (0, 1)), ())
        self.assertEqual(entries(machine, (1, None)), (((0, None), (1, None)), ((0, 0), (1, 1))))
        self.assertEqual(entries(machine, (None, 0)), ((), ((0, 0), (1, 1))))
        self.assertEqual(entries((2, ((None, 1), (0, 1)), ()), (1, None))[0], ((0, None),))

    def test_none_is_unlike_room_0(self):
        self.assertEqual(entries((1, ((None,), (0,)), ()), (1, None)), (((0, None),), ((0, 0),)))
        self.assertEqual(entries((1, ((None,), (0,)), ()), (None, 0)), ((), ((0, 0),)))

    def test_by_the_fault_alone_not_by_the_rooms_behind_it(self):
        machine = (1, ((0,), (1,), (0,)), ())
        self.assertEqual(entries(machine, (None, 0, 1)), (((0, 0),), ((0, 1),), ((0, 0),)))

    def test_a_chain_through_all_rooms(self):
        rows = tuple(tuple(letter if letter < room else None for letter in range(30)) for room in range(30))
        told = entries((30, rows, ()), chain(30, -1))
        self.assertEqual(told, ((), *(((room - 1, room - 1),) for room in range(1, 30))))
        told = entries((30, rows, ()), chain(30, 1))
        last = tuple((letter, letter) for letter in range(29))
        self.assertEqual(told, (*(((room, None),) for room in range(29)), last))

    def test_a_chain_through_forty_rooms(self):
        machine = (1, tuple((room // 2,) for room in range(40)), ())
        told = entries(machine, chain(40, -1))
        self.assertEqual(told, tuple(() if room % 2 else ((0, room // 2),) for room in range(40)))
        told = entries(machine, chain(40, 1))
        self.assertEqual(told, (*(((0, room // 2),) if room % 2 else () for room in range(39)), ((0, 19),)))

    def test_many_rooms_led_on_to_one(self):
        rows = tuple((5, 7, room) for room in range(40))
        for hub in (0, 7, 39):
            told = entries((3, rows, (1, 2)), tuple(None if room == hub else hub for room in range(40)))
            for room in range(40):
                with self.subTest(hub, room=room):
                    self.assertEqual(told[room], ((0, 5), (1, 7), (2, hub)) if room == hub else ((2, room),))

    def test_letters_rise(self):
        machine = (30, (tuple(29 - letter for letter in range(30)),) * 30, ())
        told = entries(machine, (None,) * 30)
        self.assertEqual(told, (tuple((letter, 29 - letter) for letter in range(30)),) * 30)

    def test_the_entries_tell_the_table(self):
        chance = random.Random(70)
        for _ in range(200):
            rooms = chance.randint(1, 6)
            machine = chance_machine(chance, chance.randint(1, 4), rooms)
            order = chance.sample(range(rooms), rooms)
            faults = [None] * rooms
            for at, room in enumerate(order):
                faults[room] = chance.choice([None, *order[:at]])
            rows = entries(machine, tuple(faults))
            self.assertEqual(told_by(rows, faults, machine[0]), machine[1])
            for room, row in enumerate(rows):
                behind = (None,) * machine[0] if faults[room] is None else machine[1][faults[room]]
                self.assertEqual([letter for letter, _ in row], sorted({letter for letter, _ in row}))
                self.assertEqual(len(row), sum(one != other for one, other in zip(machine[1][room], behind)))

    def test_tuples(self):
        told = entries((2, ((0, 0), (1, 0)), ()), (None, 0))
        self.assertIs(type(told), tuple)
        for row in told:
            self.assertIs(type(row), tuple)
            self.assertEqual({type(entry) for entry in row}, {tuple})


class TestFaultsRefused(unittest.TestCase):
    def test_no_tuple(self):
        for faults in (None, 5, True, "-----", [None] * 5, [9] * 5):
            with self.subTest(faults):
                self.assertEqual(room_of(faults), 0)

    def test_too_few_and_too_many(self):
        for faults in ((), (None,) * 4, (None,) * 6, (None, 0, 2), (None, 1, 9, 9), (None,) * 5 + (9,)):
            with self.subTest(faults):
                self.assertEqual(room_of(faults), 0)
        self.assertEqual(room_of((None,) * 41, 40), 0)
        self.assertEqual(room_of((), 1), 0)

    def test_no_room_at_the_first_a_middle_and_the_last_place(self):
        for wrong in NO_ROOMS:
            for room in (0, 2, 4):
                with self.subTest(wrong, room=room):
                    self.assertEqual(room_of(faults_with(5, {room: wrong})), room)

    def test_the_room_itself(self):
        for room in (0, 2, 4):
            with self.subTest(room):
                self.assertEqual(room_of(faults_with(5, {room: room})), room)
        self.assertEqual(room_of((0,), 1), 0)
        self.assertEqual(room_of(faults_with(40, {39: 39}), 40), 39)

    def test_the_first_of_several(self):
        self.assertEqual(room_of((None, 9, 2, True, -1)), 1)
        self.assertEqual(room_of((None, None, None, 3, 9)), 3)
        self.assertEqual(room_of((None, 0, 1, 9, 4)), 3)

    def test_bounds_of_rooms(self):
        self.assertEqual(room_of(faults_with(40, {0: 40}), 40), 0)
        self.assertEqual(len(entries(plain(40), faults_with(40, {0: 39}))), 40)
        self.assertEqual(len(entries(plain(40), faults_with(40, {39: 0}))), 40)
        self.assertEqual(room_of((1,), 1), 0)

    def test_a_ring_of_two(self):
        self.assertEqual(room_of((1, 0, None, None, None)), 0)
        self.assertEqual(room_of((None, None, None, 4, 3)), 3)
        self.assertEqual(room_of((None, 4, None, None, 1)), 1)

    def test_a_ring_of_three(self):
        self.assertEqual(room_of((None, 2, 3, 1, None)), 1)
        self.assertEqual(room_of((None, None, 4, 2, 3)), 2)

    def test_a_ring_of_all_rooms(self):
        self.assertEqual(room_of((1, 2, 3, 4, 0)), 0)
        self.assertEqual(room_of((4, 0, 1, 2, 3)), 0)
        self.assertEqual(room_of((1, 0), 2), 0)
        self.assertEqual(room_of(tuple((room + 1) % 40 for room in range(40)), 40), 0)
        self.assertEqual(room_of(tuple((room + 7) % 40 for room in range(40)), 40), 0)
        self.assertEqual(room_of((None, *range(2, 40), 1), 40), 1)

    def test_rooms_led_on_to_a_ring_are_not_in_it(self):
        self.assertEqual(room_of((1, 2, 1, None, None)), 1)
        self.assertEqual(room_of((3, 0, 1, 4, 3)), 3)
        self.assertEqual(room_of((4, 4, 4, 4, 3)), 3)
        self.assertEqual(room_of((*range(1, 40), 38), 40), 38)
        self.assertEqual(room_of((*range(1, 40), 20), 40), 20)

    def test_two_rings(self):
        self.assertEqual(room_of((None, 4, 3, 2, 1)), 1)
        self.assertEqual(room_of((2, 4, 3, 2, 1)), 1)
        self.assertEqual(room_of((1, 0, None, 4, 3)), 0)
        self.assertEqual(room_of((3, 3, 4, 4, 3), 5), 3)
        self.assertEqual(room_of((5, 2, 3, 1, 5, 4), 6), 1)

    def test_what_cannot_be_ahead_of_a_ring(self):
        self.assertEqual(room_of((1, 0, None, None, 9)), 4)
        self.assertEqual(room_of((1, 0, None, None, True)), 4)
        self.assertEqual(room_of((1, 0, None, 3, None)), 3)
        self.assertEqual(room_of((1, 0, None, None)), 0)

    def test_long_ways_without_a_ring_are_let_by(self):
        for faults in (chain(40, 1), chain(40, -1), (None,) * 40, (None, *(0,) * 39)):
            with self.subTest(faults):
                self.assertEqual(len(entries(plain(40), faults)), 40)

    def test_the_machine_ahead_of_the_faults(self):
        for machine, row in NO_MACHINES:
            for faults in (None, (1, 0), (None,), (9,) * 6):
                with self.subTest(machine, faults=faults):
                    self.assertEqual(refused(BadMachine, "row", entries, machine, faults), row)


if __name__ == "__main__":
    unittest.main()
