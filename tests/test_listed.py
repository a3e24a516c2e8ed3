"""Point 15: listed, looked, and BadLists with its `room`."""

import random
import unittest

from pressedtables.errors import BadLetter, BadLists, BadMachine, BadRoom
from pressedtables.listing import listed, looked
from tests.machines import NO_MACHINES, chance_machine
from tests.refusals import refused

COSTS = {"same": lambda told: 1, "pairs": lambda told: 1 + 2 * len(told), "runs": lambda told: 1 + 3 * len(told),
         "full": len}
NO_NUMBERS = (-1, True, False, None, "0", (0,), [0], [])
FORMS = (
    ("full", (1, None, 0, 0, 2)), ("pairs", ((1, 2), (4, 0))), ("same", 0), ("runs", ((0, 1, 2), (3, 4, 1))),
    ("same", 2), ("pairs", ()), ("runs", ()), ("same", 4), ("same", 1),
)
TOLD = (
    (1, None, 0, 0, 2), (None, 2, None, None, 0), (1, None, 0, 0, 2), (2, 2, None, 1, 1), (1, None, 0, 0, 2),
    (None,) * 5, (None,) * 5, (1, None, 0, 0, 2), (None, 2, None, None, 0),
)


def tried_runs(row):
    """All (from, to, next) with the same next room within, and another one or none at both sides."""
    runs = []
    for start in range(len(row)):
        for end in range(start, len(row)):
            within = set(row[start:end + 1])
            beside = row[max(start - 1, 0):start] + row[end + 1:end + 2]
            if len(within) == 1 and None not in within and row[start] not in beside:
                runs.append((start, end, row[start]))
    return tuple(runs)


def all_forms(table, room):
    """All forms of a room, in the document's order."""
    row = table[room]
    ahead = [other for other in range(room) if table[other] == row]
    forms = [("same", ahead[0])] if ahead else []
    forms.append(("pairs", tuple((letter, goal) for letter, goal in enumerate(row) if goal is not None)))
    return [*forms, ("runs", tried_runs(row)), ("full", row)]


def cost(form):
    return COSTS[form[0]](form[1])


class TestListed(unittest.TestCase):
    def told(self, rows, *forms):
        many = sum(map(cost, forms))
        self.assertEqual(listed((len(rows[0]), rows, ())), (many, forms))

    def test_full(self):
        self.told(((0, 0),), ("full", (0, 0)))
        self.told(((0, 1), (1, None)), ("full", (0, 1)), ("full", (1, None)))
        self.told(((0, 0, 1),) + ((None,) * 3,), ("full", (0, 0, 1)), ("pairs", ()))

    def test_one_letter(self):
        self.told(((0,),), ("full", (0,)))
        self.told(((None,),), ("pairs", ()))
        self.told(((1,), (None,), (1,), (None,)), ("full", (1,)), ("pairs", ()), ("same", 0), ("same", 1))

    def test_pairs(self):
        self.told(((None, 0, None, None),), ("pairs", ((1, 0),)))
        self.told(((None, 0, None, 0, None, None),), ("pairs", ((1, 0), (3, 0))))
        self.told(((0, *(None,) * 28, 0),), ("pairs", ((0, 0), (29, 0))))

    def test_runs(self):
        self.told(((None, 0, 0, 0, None, None),), ("runs", ((1, 3, 0),)))
        self.told(((0,) * 30,), ("runs", ((0, 29, 0),)))
        self.told(((0,) * 30, (1,) * 15 + (None,) * 15), ("runs", ((0, 29, 0),)), ("runs", ((0, 14, 1),)))

    def test_same(self):
        rows = ((0, 1, 2), (2, 1, 0), (0, 1, 2), (2, 1, 0), (0, 1, 2))
        self.told(rows, ("full", rows[0]), ("full", rows[1]), ("same", 0), ("same", 1), ("same", 0))
        self.told(((7,) * 30,) * 40, ("runs", ((0, 29, 7),)), *(("same", 0),) * 39)

    def test_same_tells_the_first_room_ahead_not_the_one_beside(self):
        rows = ((1, 0), (0, 0), (0, 0), (0, 0))
        self.told(rows, ("full", (1, 0)), ("full", (0, 0)), ("same", 1), ("same", 1))

    def test_an_empty_row_takes_one(self):
        self.assertEqual(listed((30, ((None,) * 30,), ())), (1, (("pairs", ()),)))
        self.assertEqual(listed((30, ((None,) * 30,) * 2, ())), (2, (("pairs", ()), ("same", 0))))

    def test_of_as_cheap_ones_the_first(self):
        # Same and pairs, same and full: 1. Pairs and full: 3. Runs and full: 4. Pairs and runs: 7. All but same: 7.
        self.told(((None, None),) * 2, ("pairs", ()), ("same", 0))
        self.told(((0,), (0,)), ("full", (0,)), ("same", 0))
        self.told(((None, None, 0),), ("pairs", ((2, 0),)))
        self.told(((None, 0, 0, 0),), ("runs", ((1, 3, 0),)))
        self.told(((0, 0, None, 0, *(None,) * 4),), ("pairs", ((0, 0), (1, 0), (3, 0))))
        self.told(((0, 0, None, 0, *(None,) * 3),), ("pairs", ((0, 0), (1, 0), (3, 0))))
        self.told(((0, 0, 0, None, 0, 0, None),), ("runs", ((0, 2, 0), (4, 5, 0))))

    def test_one_more_or_less_than_as_cheap(self):
        self.told(((None, 0),), ("full", (None, 0)))
        self.told(((0, 0, 0),), ("full", (0, 0, 0)))
        self.told(((0, 0, None, 0, None, None),), ("full", (0, 0, None, 0, None, None)))
        self.told(((0, 0, 0, None, 0, 0),), ("full", (0, 0, 0, None, 0, 0)))

    def test_runs_as_far_as_each_goes(self):
        row = (0,) * 5 + (1,) * 4 + (None,) * 2 + (1,) * 3 + (0,) * 6
        self.told((row, (None,) * 20), ("runs", ((0, 4, 0), (5, 8, 1), (11, 13, 1), (14, 19, 0))), ("pairs", ()))
        row = (0,) * 4 + (None,) + (0,) * 4
        self.told((row,), ("runs", ((0, 3, 0), (5, 8, 0))))

    def test_runs_of_one_letter(self):
        rows = ((0,) * 9 + (1,) + (0,) * 10, (None,) * 20)
        self.told(rows, ("runs", ((0, 8, 0), (9, 9, 1), (10, 19, 0))), ("pairs", ()))

    def test_how_many_numbers_all_take(self):
        rows = ((0, 1, 2, 0, 1), (None, None, 3, None, None), (2,) * 5, (0, 1, 2, 0, 1), (None,) * 5)
        self.assertEqual(listed((5, rows, ()))[0], 5 + 3 + 4 + 1 + 1)

    def test_all_are_tuples(self):
        for machine in ((5, ((0, 1, 0, 1, 0), (0,) * 5, (None, 0, None, None, None), (0,) * 5), ()),):
            many, forms = listed(machine)
            self.assertIs(type(listed(machine)), tuple)
            self.assertIs(type(many), int)
            self.assertIs(type(forms), tuple)
            self.assertEqual([form[0] for form in forms], ["full", "runs", "pairs", "same"])
            for form in forms:
                self.assertIs(type(form), tuple)
            for _, told in forms[:3]:
                self.assertIs(type(told), tuple)
            self.assertIs(type(forms[1][1][0]), tuple)
            self.assertIs(type(forms[2][1][0]), tuple)

    def test_drawn_machines_as_by_all_forms(self):
        chance = random.Random(150)
        seen = set()
        for _ in range(300):
            letters, rooms = chance.choice([1, 2, 3, 4, 5, 7, 8, 12, 30]), chance.randint(1, 8)
            table = []
            for _ in range(rooms):
                row = []
                while len(row) < letters:
                    row += [chance.choice([None, None, 0, rooms - 1])] * chance.randint(1, 5)
                table.append(chance.choice([tuple(row[:letters]), *table]))
            machine = (letters, tuple(table), ())
            forms = [min(all_forms(machine[1], room), key=cost) for room in range(rooms)]
            seen |= {form[0] for form in forms}
            self.assertEqual(listed(machine), (sum(map(cost, forms)), tuple(forms)))
        self.assertEqual(seen, set(COSTS))

    def test_no_machine(self):
        for machine, row in NO_MACHINES:
            with self.subTest(machine):
                self.assertEqual(refused(BadMachine, "row", listed, machine), row)


class TestLooked(unittest.TestCase):
    def table_of(self, letters, forms):
        return tuple(tuple(looked(letters, forms, at, letter) for letter in range(letters)) for at in range(len(forms)))

    def test_each_form_and_same_that_leads_on_to_same(self):
        self.assertEqual(self.table_of(5, FORMS), TOLD)

    def test_forms_that_listed_tells(self):
        chance = random.Random(151)
        for _ in range(60):
            machine = chance_machine(chance, chance.randint(1, 9), chance.randint(1, 6))
            machine = (machine[0], machine[1] + machine[1][:2] + ((None,) * machine[0],), ())
            self.assertEqual(self.table_of(machine[0], listed(machine)[1]), machine[1])

    def test_forms_that_are_not_the_cheapest(self):
        chance = random.Random(152)
        for _ in range(100):
            machine = chance_machine(chance, chance.randint(1, 9), chance.randint(1, 4))
            table = tuple(chance.choice(machine[1]) for _ in range(6))
            forms = tuple(chance.choice(all_forms(table, room)) for room in range(6))
            self.assertEqual(self.table_of(machine[0], forms), table)

    def test_bounds(self):
        machine = chance_machine(random.Random(153), 30, 40)
        self.assertEqual(self.table_of(30, listed(machine)[1]), machine[1])

    def test_no_room(self):
        for room in (*NO_NUMBERS, 9, 40):
            for letter in (0, 5, -1, None):
                with self.subTest(room, letter=letter):
                    refused(BadRoom, None, looked, 5, FORMS, room, letter)
        refused(BadRoom, None, looked, 5, FORMS[:3], 3, 0)

    def test_no_letter(self):
        for letter in (*NO_NUMBERS, 5, 30):
            for room in range(9):
                with self.subTest(room, letter=letter):
                    refused(BadLetter, None, looked, 5, FORMS, room, letter)


class TestBadLists(unittest.TestCase):
    def refuses(self, forms, room, letters=5):
        for asked in ((0, 0), (len(forms), 0), (0, letters), (-1, -1), (None, None), (room, 0), (len(forms) - 1, 0)):
            with self.subTest(forms, asked=asked):
                self.assertEqual(refused(BadLists, "room", looked, letters, forms, *asked), room)

    def test_same_that_tells_no_room_ahead(self):
        for room in range(9):
            for wrong in (*NO_NUMBERS, room, room + 1, 8, 9, 40):
                if wrong != 8 or room < 8:
                    self.refuses((*FORMS[:room], ("same", wrong), *FORMS[room + 1:]), room)

    def test_each_room_ahead_is_let_by(self):
        for room in range(1, 9):
            for ahead in range(room):
                forms = (*FORMS[:room], ("same", ahead), *FORMS[room + 1:])
                self.assertEqual(looked(5, forms, room, 0), looked(5, forms, ahead, 0))

    def test_full_of_another_count(self):
        for room in (0, 4, 8):
            for row in ((), (0,) * 4, (0,) * 6, (None,), (0,) * 30):
                self.refuses((*FORMS[:room], ("full", row), *FORMS[room + 1:]), room)

    def test_the_first_of_several(self):
        self.refuses((*FORMS[:3], ("full", ()), ("same", 4), ("same", 9)), 3)
        self.refuses((*FORMS[:3], ("same", 7), ("full", ()), ("same", 9)), 3)
        self.refuses((("same", 0),) * 40, 0)

    def test_the_count_is_that_of_the_letters(self):
        for letters in (4, 6, 30):
            self.refuses(FORMS, 0, letters)


if __name__ == "__main__":
    unittest.main()
