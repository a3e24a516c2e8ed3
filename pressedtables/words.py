"""What may be handed in: numbers, machines and words."""

from pressedtables.errors import BadLetter, BadMachine, BadRoom, BadWord

MOST_LETTERS = 30
MOST_ROOMS = 40
MOST_PLACES = 200


def is_whole(value):
    """Python counts True and False among the integers, this program does not."""
    return isinstance(value, int) and not isinstance(value, bool)


def is_below(value, limit):
    """Rooms, letters and the like are numbered from 0."""
    return is_whole(value) and 0 <= value < limit


def is_goal(value, rooms):
    """A next room, or none."""
    return value is None or is_below(value, rooms)


def is_letter_count(value):
    return is_whole(value) and 1 <= value <= MOST_LETTERS


def are_goals(goals, count, rooms):
    if not isinstance(goals, tuple) or len(goals) != count:
        return False
    return all(is_goal(goal, rooms) for goal in goals)


def are_finals(finals, rooms):
    if not isinstance(finals, tuple):
        return False
    last = -1
    for room in finals:
        if not is_below(room, rooms) or room <= last:
            return False
        last = room
    return True


def check_table(table, letters):
    """A 41st row is no room's, so no row may tell it as a next room."""
    rooms = min(len(table), MOST_ROOMS)
    for number, row in enumerate(table):
        if number == MOST_ROOMS or not are_goals(row, letters, rooms):
            raise BadMachine(number)


def check_machine(machine):
    """Refuse what is no machine."""
    if not isinstance(machine, tuple) or len(machine) != 3:
        raise BadMachine(0)
    letters, table, finals = machine
    if not is_letter_count(letters):
        raise BadMachine(0)
    if not isinstance(table, tuple) or len(table) == 0:
        raise BadMachine(0)
    check_table(table, letters)
    if not are_finals(finals, len(table)):
        raise BadMachine(len(table))


def check_room(room, rooms):
    if not is_below(room, rooms):
        raise BadRoom("there is no such room")


def check_letter(letter, letters):
    if not is_below(letter, letters):
        raise BadLetter("there is no such letter")


def check_word(word, letters):
    """Refuse what is no word of so many letters; what is no list can't be from its start on."""
    if not isinstance(word, list):
        raise BadWord(0)
    for place, letter in enumerate(word):
        if place == MOST_PLACES or not is_below(letter, letters):
            raise BadWord(place)
