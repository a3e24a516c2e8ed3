"""Rows of entries laid over one another in one row of cells."""

from pressedtables.errors import BadRows, TooMany
from pressedtables.words import MOST_LETTERS, MOST_ROOMS, is_below, is_goal

MOST_FILLED = 4


def is_entry(entry):
    if not isinstance(entry, tuple) or len(entry) != 2:
        return False
    letter, goal = entry
    return is_below(letter, MOST_LETTERS) and is_goal(goal, MOST_ROOMS)


def is_row_of_entries(row):
    if not isinstance(row, tuple):
        return False
    last = -1
    for entry in row:
        if not is_entry(entry) or entry[0] <= last:
            return False
        last = entry[0]
    return True


def check_rows(rows):
    """Refuse what is no rows of entries."""
    if not isinstance(rows, tuple):
        raise BadRows(0)
    for number, row in enumerate(rows):
        if number == MOST_ROOMS or not is_row_of_entries(row):
            raise BadRows(number)


def is_free(cells, at):
    return at >= len(cells) or cells[at] is None


def least_free_base(cells, row):
    """Tell the least base at which the row comes to free cells alone."""
    base = 0
    while not all(is_free(cells, base + letter) for letter, goal in row):
        base += 1
    return base


def put(cells, number, row, base):
    """Lay a room's row into the cells, which grow as far as needed."""
    for letter, goal in row:
        while len(cells) <= base + letter:
            cells.append(None)
        cells[base + letter] = (number, goal)


def laid(rows):
    """Tell the rows' bases, and the cells: each row in turn at its least base, those with more entries first."""
    check_rows(rows)
    bases = [0] * len(rows)
    cells = []
    for number in sorted(range(len(rows)), key=lambda one: (-len(rows[one]), one)):
        bases[number] = least_free_base(cells, rows[number])
        put(cells, number, rows[number], bases[number])
    return tuple(bases), tuple(cells)


def cells_taken(row):
    """The cells that a row takes at base 0, each a bit of a number, so that rows are quickly held together."""
    return sum(1 << letter for letter, goal in row)


def least_lying(shapes, taken, limit):
    """Tell the fewest cells, below the limit, and the least bases of so many; None, if there are none.

    Bases are tried rising, and what is found later counts only with fewer cells, so the least bases stay.
    """
    if not shapes:
        return taken.bit_length(), ()
    shape = shapes[0]
    found = None
    base = 0
    while max(taken.bit_length(), base + shape.bit_length()) < limit:
        shifted = shape << base
        if taken & shifted == 0:
            behind = least_lying(shapes[1:], taken | shifted, limit)
            if behind is not None:
                limit = behind[0]
                found = (limit, (base, *behind[1]))
        base += 1
    return found


def least(rows):
    """Tell the fewest cells in which the rows lie, and the least bases by which they do."""
    check_rows(rows)
    filled = [number for number, row in enumerate(rows) if row]
    if len(filled) > MOST_FILLED:
        raise TooMany("more than four rows have entries")
    bases = [0] * len(rows)
    shapes = [cells_taken(rows[number]) for number in filled]
    many, found = least_lying(shapes, 0, len(laid(rows)[1]) + 1)
    for number, base in zip(filled, found):
        bases[number] = base
    return many, tuple(bases)
