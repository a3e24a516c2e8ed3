"""Rooms put together from which each word ends alike."""

from pressedtables.classes import first_places, numbered
from pressedtables.words import check_machine


def led_row(row, numbers):
    """The row by the rooms' numbers; a hole stays one."""
    return tuple(None if goal is None else numbers[goal] for goal in row)


def finer_groups(table, groups):
    """Tell apart the rooms of a group that lead on to rooms of unlike groups."""
    return numbered([(group, led_row(row, groups)) for group, row in zip(groups, table)])


def alike_groups(table, finals):
    """Tell for each room its group; those of one group end alike by each word, however long."""
    groups = numbered([room in finals for room in range(len(table))])
    finer = finer_groups(table, groups)
    while finer != groups:
        groups = finer
        finer = finer_groups(table, groups)
    return groups


def rooms_come_to(table):
    """Tell the rooms come to from room 0 on, in the order in which they first are."""
    rooms = [0]
    at = 0
    while at < len(rooms):
        for goal in table[rooms[at]]:
            if goal is not None and goal not in rooms:
                rooms.append(goal)
        at += 1
    return rooms


def merged(machine):
    """Tell for each room its number among the merged ones, or None, and the machine of these."""
    check_machine(machine)
    letters, table, finals = machine
    groups = alike_groups(table, finals)
    rooms = rooms_come_to(table)
    order = numbered([groups[room] for room in rooms])
    numbers = [None] * len(table)
    for room, number in zip(rooms, order):
        numbers[room] = number
    firsts = [rooms[place] for place in first_places(order)]
    rows = [led_row(table[room], numbers) for room in firsts]
    goods = [number for number, room in enumerate(firsts) if room in finals]
    return numbers, (letters, tuple(rows), tuple(goods))
