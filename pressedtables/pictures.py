"""Pictures of presses: what they may be, and what they tell.

A picture has four parts: for each letter its class, for each room its fault, for each room its base, and the cells.
"""

from pressedtables.errors import BadPicture
from pressedtables.words import MOST_LETTERS, MOST_ROOMS, are_goals, is_below, is_goal

CLASS_LIMIT = 100
BASE_LIMIT = 10000
MOST_CELLS = 4000


def are_numbers(part, count, limit):
    if not isinstance(part, tuple) or len(part) != count:
        return False
    return all(is_below(number, limit) for number in part)


def is_cell(cell, rooms):
    if cell is None:
        return True
    if not isinstance(cell, tuple) or len(cell) != 2:
        return False
    return is_below(cell[0], rooms) and is_goal(cell[1], rooms)


def are_cells(part, rooms):
    if not isinstance(part, tuple) or len(part) > MOST_CELLS:
        return False
    return all(is_cell(cell, rooms) for cell in part)


def check_four(picture):
    if not isinstance(picture, tuple) or len(picture) != 4:
        raise BadPicture(4)


def check_parts(picture, letters, rooms):
    classes, faults, bases, cells = picture
    if not are_numbers(classes, letters, CLASS_LIMIT):
        raise BadPicture(0)
    # Rings are let by: they are judged, not refused.
    if not are_goals(faults, rooms, rooms):
        raise BadPicture(1)
    if not are_numbers(bases, rooms, BASE_LIMIT):
        raise BadPicture(2)
    if not are_cells(cells, rooms):
        raise BadPicture(3)


def check_picture(picture, letters, rooms):
    """Refuse what is no picture of a machine of so many letters and rooms."""
    check_four(picture)
    check_parts(picture, letters, rooms)


def count_within(part, most):
    """How many a part tells, brought within 1 and most, so that a part of another count can't be."""
    if not isinstance(part, tuple):
        return 1
    return max(1, min(len(part), most))


def check_any_picture(picture):
    """Refuse what is no picture of any machine."""
    check_four(picture)
    check_parts(picture, count_within(picture[0], MOST_LETTERS), count_within(picture[1], MOST_ROOMS))


def own_cell(picture, room, number):
    """Tell the cell of the room for the class of this number; None, if it's free or another room's."""
    bases, cells = picture[2], picture[3]
    at = bases[room] + number
    if at >= len(cells) or cells[at] is None or cells[at][0] != room:
        return None
    return cells[at]


def tells(picture, room, letter):
    """Tell the next room; the faults have no ring, or it never ends. Behind the last fault all is None."""
    classes, faults = picture[0], picture[1]
    while room is not None:
        cell = own_cell(picture, room, classes[letter])
        if cell is not None:
            return cell[1]
        room = faults[room]
    return None
