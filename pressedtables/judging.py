"""Pictures of presses judged against the plain table."""

from pressedtables.faults import least_in_ring
from pressedtables.pictures import check_picture, tells
from pressedtables.words import check_machine


def first_otherwise(machine, picture):
    """Tell the first room and letter of which the picture tells otherwise, or None."""
    for room, row in enumerate(machine[1]):
        for letter, goal in enumerate(row):
            if tells(picture, room, letter) != goal:
                return room, letter
    return None


def judged(machine, picture):
    """Tell None, if the picture tells what the machine tells, else what is wrong with it."""
    check_machine(machine)
    check_picture(picture, machine[0], len(machine[1]))
    ringed = least_in_ring(picture[1])
    if ringed is not None:
        return "ring", ringed
    otherwise = first_otherwise(machine, picture)
    if otherwise is not None:
        return "otherwise", *otherwise
    return None
