"""Machines that go by two letters at once."""

from pressedtables.classes import first_places, numbered
from pressedtables.plain import ending, next_room
from pressedtables.words import check_machine, check_word


def columns_of_pairs(machine):
    """Tell for each two letters, ascending, the rooms behind them from all rooms."""
    letters = machine[0]
    pairs = [(first, second) for first in range(letters) for second in range(letters)]
    return [
        tuple(next_room(machine, next_room(machine, room, first), second) for room in range(len(machine[1])))
        for first, second in pairs
    ]


def by_pairs(machine):
    """Tell for each two letters their class, and for each room the room behind two letters of each class."""
    check_machine(machine)
    columns = columns_of_pairs(machine)
    classes = numbered(columns)
    least_pairs = first_places(classes)
    rows = [tuple(columns[pair][room] for pair in least_pairs) for room in range(len(machine[1]))]
    return tuple(classes), tuple(rows)


def place_of_break(machine, room, word, place):
    """A pair that breaks does so at its second letter, unless at its first."""
    return place if next_room(machine, room, word[place]) is None else place + 1


def run_by_pairs(machine, word):
    """Tell the rooms come to behind each two letters and a last single one, how the word ends, and where it breaks."""
    check_machine(machine)
    check_word(word, machine[0])
    classes, rows = by_pairs(machine)
    rooms = [0]
    for place in range(0, len(word), 2):
        room = rooms[-1]
        if place + 1 < len(word):
            goal = rows[room][classes[word[place] * machine[0] + word[place + 1]]]
        else:
            goal = next_room(machine, room, word[place])
        if goal is None:
            return rooms, ending(machine, None), place_of_break(machine, room, word, place)
        rooms.append(goal)
    return rooms, ending(machine, rooms[-1]), None
