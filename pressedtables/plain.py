"""Machines as they are, by their plain tables."""

from pressedtables.errors import Unlike
from pressedtables.words import check_machine, check_word


def next_room(machine, room, letter):
    """None stands for a broken word, which stays broken."""
    if room is None:
        return None
    return machine[1][room][letter]


def ending(machine, room):
    if room is None:
        return "broken"
    return "good" if room in machine[2] else "bad"


def walked(machine, word):
    rooms = [0]
    for letter in word:
        room = next_room(machine, rooms[-1], letter)
        if room is None:
            return rooms, ending(machine, None)
        rooms.append(room)
    return rooms, ending(machine, rooms[-1])


def run(machine, word):
    """Tell the rooms come to, from room 0 on, and how the word ends."""
    check_machine(machine)
    check_word(word, machine[0])
    return walked(machine, word)


def apart(machine, other):
    """Tell the least word by which the machines end otherwise, or None."""
    check_machine(machine)
    check_machine(other)
    if machine[0] != other[0]:
        raise Unlike("the machines have not as many letters")
    return least_apart(machine, other)


def least_apart(machine, other):
    """Pairs of rooms wait in the order of their least words, so the first to end otherwise tells it."""
    words = {(0, 0): []}
    waiting = [(0, 0)]
    at = 0
    while at < len(waiting):
        room, beside = waiting[at]
        word = words[(room, beside)]
        if ending(machine, room) != ending(other, beside):
            return word
        for letter in range(machine[0]):
            pair = (next_room(machine, room, letter), next_room(other, beside, letter))
            if pair not in words:
                words[pair] = [*word, letter]
                waiting.append(pair)
        at += 1
    return None
