"""Point 10: least, and TooMany."""

import itertools
import random
import unittest

from pressedtables.errors import BadRows, TooMany
from pressedtables.laying import laid, least
from tests.refusals import refused
from tests.rows import chance_rows, row_of, rows_of


def tried_least(rows):
    """The fewest cells and the least bases of all that can be, by trying each.

    A base beyond all cells that laid takes is never needed.
    """
    most = len(laid(rows)[1])
    found = (most + 1, ())
    for bases in itertools.product(*(range(most if row else 1) for row in rows)):
        cells = [base + letter for base, row in zip(bases, rows) for letter, _ in row]
        if len(set(cells)) == len(cells):
            found = min(found, (max(cells, default=-1) + 1, bases))
    return found


class TestLeast(unittest.TestCase):
    def test_no_rows(self):
        self.assertEqual(least(()), (0, ()))

    def test_empty_rows(self):
        self.assertEqual(least(((),)), (0, (0,)))
        self.assertEqual(least(((), (), ())), (0, (0, 0, 0)))

    def test_empty_rows_between_others(self):
        self.assertEqual(least(((), row_of((0,)), (), (), row_of((0, 1)), ())), (3, (0, 0, 0, 0, 1, 0)))
        self.assertEqual(least((row_of((0,)), (), row_of((0,)))), (2, (0, 0, 1)))

    def test_one_row(self):
        self.assertEqual(least(rows_of((0,))), (1, (0,)))
        self.assertEqual(least(rows_of((5,))), (6, (0,)))
        self.assertEqual(least(rows_of((0, 29))), (30, (0,)))

    def test_fewer_cells_than_laid(self):
        for letters, laid_in, told in (
            (((1, 2), (0, 1)), 5, (4, (1, 0))),
            (((0, 1), (0, 3)), 6, (4, (1, 0))),
            (((0, 2), (1, 2, 3)), 7, (6, (0, 2))),
            (((0, 3), (0, 1, 3)), 6, (5, (0, 1))),
        ):
            rows = rows_of(*letters)
            with self.subTest(letters):
                self.assertEqual(len(laid(rows)[1]), laid_in)
                self.assertEqual(least(rows), told)

    def test_as_many_cells_as_laid(self):
        self.assertEqual(least(rows_of((3, 4, 5), (0, 1))), (6, (0, 0)))
        self.assertEqual(least(rows_of((0, 1, 3), (0, 2, 3))), (6, (0, 2)))

    def test_the_least_bases_of_as_few_cells(self):
        self.assertEqual(least(rows_of((0,), (0,), (0,), (0,))), (4, (0, 1, 2, 3)))
        self.assertEqual(least(rows_of((0,), (0, 1))), (3, (0, 1)))
        self.assertEqual(least(rows_of((0, 1), (0,))), (3, (0, 2)))
        self.assertEqual(least(rows_of((0,), (9,), (0,))), (10, (0, 0, 1)))

    def test_an_entry_that_tells_none_takes_its_cell(self):
        self.assertEqual(least((((0, None),), ((0, None), (1, 3)))), (3, (0, 1)))

    def test_up_to_the_last_that_is_taken_not_how_many_are(self):
        self.assertEqual(least(rows_of((4,), (4,))), (6, (0, 1)))
        self.assertEqual(least(rows_of((2, 4), (1, 3))), (5, (0, 0)))

    def test_against_all_bases(self):
        chance = random.Random(100)
        unlike = 0
        for _ in range(400):
            rows = chance_rows(chance, chance.randint(0, 3), chance.randint(5, 8), 5)
            told = least(rows)
            self.assertEqual(told, tried_least(rows), rows)
            unlike += told[0] < len(laid(rows)[1])
        self.assertGreater(unlike, 20)

    def test_four_rows_against_all_bases(self):
        chance = random.Random(101)
        for _ in range(60):
            rows = chance_rows(chance, 4, 4, 3)
            self.assertEqual(least(rows), tried_least(rows), rows)

    def test_four_rows_at_their_bounds(self):
        self.assertEqual(least((row_of(range(30)),) * 4), (120, (0, 30, 60, 90)))
        self.assertEqual(least((row_of((0, 29)),) * 4), (33, (0, 1, 2, 3)))
        self.assertEqual(least((row_of((29,)),) * 4), (33, (0, 1, 2, 3)))
        evens = row_of(range(0, 30, 2))
        self.assertEqual(least((evens,) * 4), (60, (0, 1, 30, 31)))

    def test_many_empty_rows_beside_four(self):
        rows = [()] * 40
        for at in (0, 13, 14, 39):
            rows[at] = row_of((0, 1))
        bases = [0] * 40
        bases[13], bases[14], bases[39] = 2, 4, 6
        self.assertEqual(least(tuple(rows)), (8, tuple(bases)))

    def test_tuples(self):
        told = least(rows_of((0,), (0,)))
        self.assertIs(type(told), tuple)
        self.assertIs(type(told[1]), tuple)
        self.assertIs(type(told[0]), int)


class TestTooMany(unittest.TestCase):
    def test_five_rows_that_are_not_empty(self):
        one = row_of((0,))
        between = (one, (), one, (), one, (), one, (), one)
        for rows in ((one,) * 5, (one,) * 6, (one,) * 40, between, ((),) * 35 + (one,) * 5):
            with self.subTest(rows):
                refused(TooMany, None, least, rows)

    def test_an_entry_of_none_is_no_empty_row(self):
        refused(TooMany, None, least, (row_of((3,), None),) * 5)

    def test_four_are_let_by(self):
        one = row_of((0,))
        self.assertEqual(least((one,) * 4)[0], 4)
        self.assertEqual(least(((), one, (), one, (), one, (), one, ())), (4, (0, 0, 0, 1, 0, 2, 0, 3, 0)))

    def test_bad_rows_ahead(self):
        one = row_of((0,))
        self.assertEqual(refused(BadRows, "row", least, (one,) * 5 + (None,)), 5)
        self.assertEqual(refused(BadRows, "row", least, (one,) * 41), 40)
        self.assertEqual(refused(BadRows, "row", least, [one] * 5), 0)

    def test_laid_takes_them_all(self):
        self.assertEqual(laid((row_of((0,)),) * 5)[0], (0, 1, 2, 3, 4))


if __name__ == "__main__":
    unittest.main()
