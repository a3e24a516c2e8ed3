"""Rooms led on to others by faults, so that they tell but what is unlike there."""

from pressedtables.errors import BadDeep, BadFaults, TooMany
from pressedtables.words import check_machine, is_below, is_goal

MOST_DEEP = 4
MOST_TRIED_ROOMS = 5


def is_fault(fault, room, rooms):
    return is_goal(fault, rooms) and fault != room


def is_in_ring(faults, room):
    """A way back to the room has at most as many steps as there are rooms."""
    behind = faults[room]
    steps = 1
    while behind is not None and behind != room and steps < len(faults):
        behind = faults[behind]
        steps += 1
    return behind == room


def least_in_ring(faults):
    """Tell the least room that is led on to itself in the end, or None."""
    for room in range(len(faults)):
        if is_in_ring(faults, room):
            return room
    return None


def check_faults(faults, rooms):
    """Refuse what is no faults of so many rooms."""
    if not isinstance(faults, tuple) or len(faults) != rooms:
        raise BadFaults(0)
    for room, fault in enumerate(faults):
        if not is_fault(fault, room, rooms):
            raise BadFaults(room)
    ringed = least_in_ring(faults)
    if ringed is not None:
        raise BadFaults(ringed)


def row_behind(machine, fault):
    """What is told where a room has no entry."""
    if fault is None:
        return (None,) * machine[0]
    return machine[1][fault]


def room_entries(machine, room, fault):
    row = machine[1][room]
    told = row_behind(machine, fault)
    return tuple((letter, row[letter]) for letter in range(machine[0]) if row[letter] != told[letter])


def entries(machine, faults):
    """Tell for each room its entries: where its row is unlike its fault's."""
    check_machine(machine)
    check_faults(faults, len(machine[1]))
    return tuple(room_entries(machine, room, fault) for room, fault in enumerate(faults))


def fault_choices(room, rooms):
    """All faults that a room may have, ascending."""
    return [None] + [other for other in range(rooms) if other != room]


def all_costs(machine):
    """Tell how many entries each room has by each fault."""
    rooms = len(machine[1])
    return {
        (room, fault): len(room_entries(machine, room, fault))
        for room in range(rooms)
        for fault in fault_choices(room, rooms)
    }


def cost_of(costs, faults):
    return sum(costs[(room, fault)] for room, fault in enumerate(faults))


def tree(machine):
    """Tell the fewest entries, and faults by which there are so many.

    Two rows are as unlike one way as the other, and a row of Nones may stand for having no fault. So the fewest
    entries are those of a least spanning tree, grown from that row by the cheapest room each time.
    """
    check_machine(machine)
    costs = all_costs(machine)
    faults = [None] * len(machine[1])
    waiting = list(range(len(faults)))
    while waiting:
        room = min(waiting, key=lambda one: costs[(one, faults[one])])
        waiting.remove(room)
        for other in waiting:
            if costs[(other, room)] < costs[(other, faults[other])]:
                faults[other] = room
    return cost_of(costs, faults), tuple(faults)


def all_faults(rooms):
    """All tuples of faults, ascending, those with rings too."""
    grown = [()]
    for room in range(rooms):
        choices = fault_choices(room, rooms)
        grown = [(*faults, fault) for faults in grown for fault in choices]
    return grown


def ends_within(faults, room, deep):
    """In a ring it never ends."""
    behind = faults[room]
    steps = 0
    while behind is not None and steps < deep:
        behind = faults[behind]
        steps += 1
    return behind is None


def is_shallow(faults, deep):
    return all(ends_within(faults, room, deep) for room in range(len(faults)))


def shallow(machine, deep):
    """Tell the fewest entries if no room is led on to more than so many rooms, and the least such faults."""
    check_machine(machine)
    if not is_below(deep, MOST_DEEP + 1):
        raise BadDeep("rooms are led on to 0 to 4 rooms")
    rooms = len(machine[1])
    if rooms > MOST_TRIED_ROOMS:
        raise TooMany("there are more than five rooms")
    costs = all_costs(machine)
    tried = [faults for faults in all_faults(rooms) if is_shallow(faults, deep)]
    least_faults = min(tried, key=lambda faults: cost_of(costs, faults))
    return cost_of(costs, least_faults), least_faults
