"""Point 8: tree; shallow, BadDeep and TooMany."""

import itertools
import random
import unittest

from pressedtables.errors import BadDeep, BadMachine, TooMany
from pressedtables.faults import entries, shallow, tree
from tests.machines import NO_MACHINES, chance_machine, ring
from tests.refusals import refused

NO_DEEPS = (-1, 5, 99, True, False, None, "1", (1,), [0], ())


def depths(faults):
    """How many rooms each room is led on to, one behind the other; None if that never ends."""
    told = []
    for room in range(len(faults)):
        passed = []
        at = faults[room]
        while at is not None and at not in passed:
            passed.append(at)
            at = faults[at]
        told.append(len(passed) if at is None else None)
    return told


def all_faults(rooms):
    """All faults without a ring, as they ascend, None being less than rooms, and how deep they go."""
    for some in itertools.product(range(-1, rooms), repeat=rooms):
        faults = tuple(None if room == -1 else room for room in some)
        told = depths(faults)
        if None not in told and all(room != fault for room, fault in enumerate(faults)):
            yield faults, max(told)


ALL_FAULTS = {rooms: list(all_faults(rooms)) for rooms in range(1, 5)}


def many(machine, faults):
    return sum(len(row) for row in entries(machine, faults))


def tried_shallow(machine, deep):
    found = None
    for faults, deepest in ALL_FAULTS[len(machine[1])]:
        if deepest <= deep and (found is None or many(machine, faults) < found[0]):
            found = (many(machine, faults), faults)
    return found


def alike_machine(chance, letters, rooms):
    """Rows that are nudged from one another, so that faults are worth it at many depths."""
    table = [[chance.choice([None, *range(rooms)]) for _ in range(letters)]]
    while len(table) < rooms:
        row = list(chance.choice(table))
        for _ in range(chance.randint(0, letters // 2 + 1)):
            row[chance.randrange(letters)] = chance.choice([None, *range(rooms)])
        table.append(row)
    chance.shuffle(table)
    return (letters, tuple(tuple(row) for row in table), ())


def some_machines(seed, count):
    chance = random.Random(seed)
    for _ in range(count):
        yield chance_machine(chance, chance.randint(1, 5), chance.randint(1, 4))
        yield alike_machine(chance, chance.randint(2, 8), chance.randint(2, 4))


def spanned(machine):
    """The fewest entries by joining the cheapest two parts each time, a row of Nones being one of them."""
    letters, table, _ = machine
    rows = [(None,) * letters, *table]
    part = list(range(len(rows)))
    total = 0
    pairs = itertools.combinations(range(len(rows)), 2)
    costs = sorted((sum(a != b for a, b in zip(rows[one], rows[other])), one, other) for one, other in pairs)
    for cost, one, other in costs:
        if part[one] != part[other]:
            total += cost
            part = [part[one] if mark == part[other] else mark for mark in part]
    return total


def step_rows(chance, rooms):
    """A table in which each row is one letter otherwise than the one ahead, rows mixed."""
    rows = [[7] * 30]
    for at in range(rooms - 1):
        row = list(rows[-1])
        row[at % 30] = None if at % 5 == 4 else at
        rows.append(row)
    chance.shuffle(rows)
    return (30, tuple(tuple(row) for row in rows), ())


class TestTree(unittest.TestCase):
    def holds(self, machine, fewest):
        told = tree(machine)
        self.assertEqual(told[0], fewest, machine)
        self.assertEqual(many(machine, told[1]), fewest, machine)

    def test_one_room(self):
        self.assertEqual(tree((1, ((0,),), ())), (1, (None,)))
        self.assertEqual(tree((3, ((None, 0, None),), (0,))), (1, (None,)))
        self.assertEqual(tree((30, ((None,) * 30,), ()))[0], 0)

    def test_rooms_alike(self):
        self.holds((2, ((1, 0),) * 40, ()), 2)
        self.holds((2, ((None, None),) * 40, ()), 0)

    def test_a_fault_is_not_worth_it(self):
        self.holds((3, ((0, 0, 0), (None, None, 1)), ()), 4)
        self.holds((2, ((1, None), (None, 0)), ()), 2)

    def test_led_on_to_a_later_room_and_to_an_earlier_one(self):
        self.assertEqual(tree((3, ((0, 1, 2), (None, 1, None), (0, 1, None)), ())), (3, (2, None, 1)))
        self.assertEqual(tree((3, ((None, 1, None), (0, 1, None), (0, 1, 2)), ())), (3, (None, 0, 1)))

    def test_a_middle_room_is_worth_more_than_the_nearest_to_none(self):
        # By rooms alone, ahead of any order of them: 0 and 3 are far apart but for those between.
        rows = ((0, 0, 0, 0), (1, 0, 0, 0), (1, 1, 0, 0), (1, 1, 1, 0))
        self.holds((4, rows, ()), 4 + 3)
        self.holds((4, (rows[3], rows[0], rows[2], rows[1]), ()), 4 + 3)

    def test_against_all_faults(self):
        for machine in some_machines(80, 150):
            self.holds(machine, min(many(machine, faults) for faults, _ in ALL_FAULTS[len(machine[1])]))

    def test_a_long_chain(self):
        steps = step_rows(random.Random(81), 40)
        self.holds(steps, spanned(steps))
        rows = tuple(tuple(letter if letter < room else None for letter in range(30)) for room in range(30))
        self.holds((30, rows, ()), 29)
        self.holds((30, rows[::-1], ()), 29)

    def test_forty_rooms_and_thirty_letters(self):
        chance = random.Random(82)
        for rooms in (5, 17, 39, 40):
            for machine in (chance_machine(chance, 30, rooms), alike_machine(chance, 30, rooms)):
                with self.subTest(rooms):
                    self.holds(machine, spanned(machine))

    def test_tuples_of_faults_without_a_ring(self):
        for machine in some_machines(83, 30):
            told = tree(machine)
            self.assertIs(type(told), tuple)
            self.assertIs(type(told[1]), tuple)
            self.assertNotIn(None, depths(told[1]))

    def test_the_same_again(self):
        for machine in some_machines(84, 20):
            self.assertEqual(tree(machine), tree(machine))

    def test_no_machine(self):
        for machine, row in NO_MACHINES:
            with self.subTest(machine):
                self.assertEqual(refused(BadMachine, "row", tree, machine), row)


class TestShallow(unittest.TestCase):
    STAIRS = (4, ((None,) * 4, (0, None, None, None), (0, 0, None, None), (0, 0, 0, None), (0, 0, 0, 0)), (1,))

    def test_deep_0_is_without_faults(self):
        self.assertEqual(shallow((2, ((0, 0),) * 5, ()), 0), (10, (None,) * 5))
        self.assertEqual(shallow(self.STAIRS, 0), (10, (None,) * 5))

    def test_each_depth(self):
        self.assertEqual(shallow(self.STAIRS, 1), (6, (None, None, None, 2, 2)))
        self.assertEqual(shallow(self.STAIRS, 2), (5, (None, None, None, 2, 3)))
        self.assertEqual(shallow(self.STAIRS, 3), (4, (None, None, 1, 2, 3)))
        self.assertEqual(shallow(self.STAIRS, 4), (4, (None, None, 1, 2, 3)))

    def test_the_least_faults(self):
        alike = (1, ((0,),) * 4, ())
        self.assertEqual(shallow(alike, 1), (1, (None, 0, 0, 0)))
        self.assertEqual(shallow(alike, 4), (1, (None, 0, 0, 0)))
        self.assertEqual(shallow((1, ((None,),) * 3, ()), 2), (0, (None, None, None)))
        self.assertEqual(shallow((2, ((0, None), (None, 0)), ()), 1), (2, (None, None)))

    def test_the_least_faults_though_the_first_room_is_led_on(self):
        machine = (3, ((0, 0, 1), (0, 0, None), (0, 0, None)), ())
        self.assertEqual(shallow(machine, 4), (3, (1, None, 1)))
        self.assertEqual(shallow(machine, 1), (3, (1, None, 1)))

    def test_against_all_faults(self):
        unlike = 0
        for machine in some_machines(85, 60):
            told = [shallow(machine, deep) for deep in range(5)]
            self.assertEqual(told, [tried_shallow(machine, deep) for deep in range(5)], machine)
            self.assertEqual(told[4][0], tree(machine)[0])
            unlike += told[1][0] > told[2][0]
        self.assertGreater(unlike, 0)

    def test_five_rooms_against_all_faults(self):
        all_of_five = list(all_faults(5))
        chance = random.Random(86)
        unlike = set()
        for _ in range(6):
            machine = alike_machine(chance, 8, 5)
            counts = [(many(machine, faults), faults, deepest) for faults, deepest in all_of_five]
            for deep in range(5):
                fewest = min(count for count, _, deepest in counts if deepest <= deep)
                least = next(one[:2] for one in counts if one[0] == fewest and one[2] <= deep)
                self.assertEqual(shallow(machine, deep), least)
                unlike.add((deep, fewest - tree(machine)[0] > 0))
        self.assertLessEqual({(0, True), (1, True), (4, False)}, unlike)

    def test_five_rooms_at_their_deepest(self):
        rows = tuple(tuple(0 if letter // 3 <= room else None for letter in range(15)) for room in range(5))
        machine = (15, rows, ())
        self.assertEqual(shallow(machine, 4), (15, (None, 0, 1, 2, 3)))
        self.assertEqual([shallow(machine, deep)[0] for deep in range(5)], [45, 24, 21, 18, 15])

    def test_one_room(self):
        for deep in range(5):
            self.assertEqual(shallow((2, ((0, None),), (0,)), deep), (1, (None,)))

    def test_tuples(self):
        told = shallow(self.STAIRS, 2)
        self.assertIs(type(told), tuple)
        self.assertIs(type(told[1]), tuple)

    def test_bad_deep(self):
        for deep in NO_DEEPS:
            for rooms in (1, 5, 6, 40):
                with self.subTest(deep, rooms=rooms):
                    refused(BadDeep, None, shallow, ring(rooms, ()), deep)

    def test_too_many_rooms(self):
        for rooms in (6, 7, 40):
            for deep in range(5):
                with self.subTest(rooms, deep=deep):
                    refused(TooMany, None, shallow, ring(rooms, ()), deep)

    def test_five_rooms_are_let_by(self):
        for deep in range(5):
            self.assertEqual(shallow(ring(5, ()), deep), (5, (None,) * 5))

    def test_the_machine_ahead_of_both(self):
        for machine, row in NO_MACHINES:
            for deep in (-1, 5, True, None, 0, 4):
                with self.subTest(machine, deep=deep):
                    self.assertEqual(refused(BadMachine, "row", shallow, machine, deep), row)


if __name__ == "__main__":
    unittest.main()
