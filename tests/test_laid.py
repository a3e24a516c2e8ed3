"""Point 9: rows, BadRows with its `row`, and laid."""

import random
import unittest

from pressedtables.errors import BadRows
from pressedtables.faults import entries
from pressedtables.laying import laid, least
from tests.machines import chance_machine
from tests.refusals import refused
from tests.rows import NO_ROWS, chance_rows, row_of, rows_of


def row_refused(rows):
    """Both refuse the same rows with the same row."""
    told = refused(BadRows, "row", laid, rows)
    assert refused(BadRows, "row", least, rows) == told
    return told


def tried_laid(rows):
    """The bases by trying one after the other, cells kept as a dict."""
    cells = {}
    bases = [0] * len(rows)
    for size in range(30, 0, -1):
        for number, row in enumerate(rows):
            if len(row) == size:
                while any(bases[number] + letter in cells for letter, _ in row):
                    bases[number] += 1
                cells.update({bases[number] + letter: (number, goal) for letter, goal in row})
    return tuple(bases), tuple(cells.get(at) for at in range(max(cells, default=-1) + 1))


class TestLaid(unittest.TestCase):
    def bases(self, rows, bases):
        self.assertEqual(laid(rows)[0], bases)

    def owners(self, rows, bases, owners):
        """The cells by whose they are: a figure, or a dot for a free one."""
        told = laid(rows)
        self.assertEqual(told[0], bases)
        self.assertEqual("".join("." if cell is None else str(cell[0]) for cell in told[1]), owners)

    def test_no_rows(self):
        self.assertEqual(laid(()), ((), ()))

    def test_empty_rows_alone(self):
        self.assertEqual(laid(((),)), ((0,), ()))
        self.assertEqual(laid(((),) * 40), ((0,) * 40, ()))

    def test_one_row(self):
        self.assertEqual(laid((((0, 7),),)), ((0,), ((0, 7),)))
        self.assertEqual(laid((((0, 7), (2, None)),)), ((0,), ((0, 7), None, (0, None))))

    def test_a_row_whose_first_letter_is_not_0(self):
        self.assertEqual(laid((((2, 5),),)), ((0,), (None, None, (0, 5))))
        self.owners(rows_of((29,)), (0,), "." * 29 + "0")
        self.owners(rows_of((3, 4), (2,)), (0, 0), "..100")
        self.owners(rows_of((3, 4), (3,)), (0, 2), "...001")

    def test_rows_with_more_entries_first(self):
        self.owners(rows_of((0,), (0, 1)), (2, 0), "110")
        self.owners(rows_of((0,), (0, 1), (0, 1, 2)), (5, 3, 0), "222110")
        self.owners(rows_of((0, 1, 2), (0, 1), (0,)), (0, 3, 5), "000112")

    def test_of_as_many_the_lesser_number(self):
        self.owners(rows_of((0,), (0,), (0,)), (0, 1, 2), "012")
        self.owners(rows_of((0, 1), (0, 1), (0,)), (0, 2, 4), "00112")
        self.owners(rows_of((0,), (0, 1), (0,), (0, 1)), (4, 0, 5, 2), "113302")

    def test_more_entries_not_the_longer_one(self):
        self.owners(rows_of((0, 5), (0, 1, 2)), (3, 0), "1110....0")

    def test_between_others(self):
        self.owners(rows_of((0, 2, 4), (0, 2), (0,)), (0, 1, 5), "010102")
        self.owners(rows_of((0, 3, 6), (0, 1)), (0, 1), "0110..0")
        self.owners(rows_of((0, 3, 6), (0, 1), (0,), (0,)), (0, 1, 4, 5), "0110230")
        self.owners(rows_of((0, 1, 5), (0, 2), (0, 1)), (0, 2, 6), "001.1022")

    def test_a_row_interlocks_with_others(self):
        self.owners(rows_of((0, 2, 4, 6), (0, 2, 4), (1, 3)), (0, 1, 6), "01010102.2")

    def test_the_least_base_though_a_later_one_ends_sooner(self):
        # The last row fits at base 0 by its far letter too, beyond the end of the others.
        self.owners(rows_of((1, 2, 3), (0, 20)), (0, 0), "1000" + "." * 16 + "1")

    def test_an_entry_that_tells_none_takes_its_cell(self):
        rows = (((0, None), (1, None)), ((0, None),))
        self.assertEqual(laid(rows), ((0, 2), ((0, None), (0, None), (1, None))))

    def test_free_cells_are_none_and_the_last_is_taken(self):
        told = laid((((1, 3), (4, None)),))[1]
        self.assertEqual(told, (None, (0, 3), None, None, (0, None)))

    def test_empty_rows_lie_at_base_0(self):
        self.owners(((), ((0, 0),), (), ((0, 0),), ()), (0, 0, 0, 1, 0), "13")

    def test_cells_tell_what_the_entries_tell(self):
        rows = (((0, 39), (2, None)), ((0, 0), (1, 5), (29, 38)))
        bases, cells = laid(rows)
        self.assertEqual(bases, (2, 0))
        self.assertEqual(cells[:5], ((1, 0), (1, 5), (0, 39), None, (0, None)))
        self.assertEqual(cells[29], (1, 38))
        self.assertEqual(len(cells), 30)

    def test_rows_at_their_bounds(self):
        rows = (((0, 0), (29, 39)), ((0, None), (29, None)))
        self.owners(rows, (0, 1), "01" + "." * 27 + "01")
        self.bases((row_of((0,)),) * 40, tuple(range(40)))
        self.bases((row_of((29,), 39),) * 40, tuple(range(40)))
        self.bases((row_of(range(30)),) * 40, tuple(range(0, 1200, 30)))
        self.assertEqual(len(laid((row_of(range(30)),) * 40)[1]), 1200)
        self.assertEqual(len(laid((row_of((0, 29)),) * 29)[1]), 58)
        self.assertEqual(len(laid((row_of((0, 29)),) * 30)[1]), 58 + 30)

    def test_as_by_trying_each_base(self):
        chance = random.Random(90)
        for _ in range(200):
            rows = chance_rows(chance, chance.randint(0, 8), 12, 6)
            self.assertEqual(laid(rows), tried_laid(rows))
        for _ in range(20):
            rows = chance_rows(chance, chance.randint(30, 40), 30, chance.choice([3, 15, 30]))
            self.assertEqual(laid(rows), tried_laid(rows))

    def test_entries_are_rows(self):
        chance = random.Random(91)
        machine = chance_machine(chance, 30, 40)
        rows = entries(machine, (None,) * 40)
        bases, cells = laid(rows)
        for room, row in enumerate(machine[1]):
            for letter, goal in enumerate(row):
                at = bases[room] + letter
                cell = cells[at] if at < len(cells) else None
                self.assertEqual(cell[1] if cell is not None and cell[0] == room else None, goal)

    def test_tuples(self):
        told = laid(rows_of((0, 2)))
        self.assertIs(type(told), tuple)
        self.assertEqual([type(part) for part in told], [tuple, tuple])
        self.assertEqual([type(cell) for cell in told[1]], [tuple, type(None), tuple])


class TestRowsRefused(unittest.TestCase):
    def test_no_tuple(self):
        for rows in (None, 0, True, "rows", [], [()], [row_of((0,))]):
            with self.subTest(rows):
                self.assertEqual(row_refused(rows), 0)

    def test_no_row_at_the_first_a_middle_and_the_last_place(self):
        for name, wrong in NO_ROWS.items():
            for place in (0, 3, 6):
                rows = [row_of((0, 29)), (), (), (), row_of((5,), None), (), ()]
                rows[place] = wrong
                with self.subTest(name, place=place):
                    self.assertEqual(row_refused(tuple(rows)), place)

    def test_no_row_alone(self):
        for name, wrong in NO_ROWS.items():
            with self.subTest(name):
                self.assertEqual(row_refused((wrong,)), 0)

    def test_the_first_of_several(self):
        self.assertEqual(row_refused(((), row_of((30,)), None)), 1)
        self.assertEqual(row_refused(((), (), [], row_of((30,)))), 2)

    def test_forty_rows_are_let_by_a_41st_is_not(self):
        self.assertEqual(laid(((),) * 40)[0], (0,) * 40)
        self.assertEqual(least(((),) * 40), (0, (0,) * 40))
        self.assertEqual(row_refused(((),) * 41), 40)
        self.assertEqual(row_refused(((),) * 40 + (None,)), 40)
        self.assertEqual(row_refused(((),) * 45), 40)

    def test_an_earlier_row_ahead_of_a_41st(self):
        for place in (0, 20, 39):
            rows = [()] * 42
            rows[place] = row_of((30,))
            with self.subTest(place):
                self.assertEqual(row_refused(tuple(rows)), place)

    def test_a_later_row_behind_a_41st(self):
        self.assertEqual(row_refused(((),) * 41 + (None,)), 40)


if __name__ == "__main__":
    unittest.main()
