"""Presses made and changed as the document words it, to hold those of the program against."""

import itertools

from pressedtables.classes import classed
from pressedtables.faults import entries, tree
from pressedtables.laying import laid

WAYS = ("classes", "faults", "laid")
# No way, each one, each two, all three, in any order.
ALL_WAYS = tuple(ways for count in range(4) for ways in itertools.permutations(WAYS, count))
SETS_OF_WAYS = tuple(ways for count in range(4) for ways in itertools.combinations(WAYS, count))


def changed(machine, room, letter, goal):
    """The plain machine with that next room."""
    letters, table, finals = machine
    rows = [list(row) for row in table]
    rows[room][letter] = goal
    return (letters, tuple(map(tuple, rows)), finals)


def chance_change(chance, machine):
    """A room, a letter and a next room or None, often one that is told near by."""
    letters, table, _ = machine
    room, letter = chance.randrange(len(table)), chance.randrange(letters)
    goals = [None, chance.randrange(len(table)), table[room][chance.randrange(letters)]]
    goals.append(table[chance.randrange(len(table))][letter])
    return room, letter, chance.choice(goals)


class PlainPress:
    """For each room its entries as a dict by classes; the cells come of these and the bases each time."""

    def __init__(self, machine, ways):
        self.classes = list(range(machine[0]))
        if "classes" in ways:
            classes, machine = classed(machine)
            self.classes = list(classes)
        self.faults = [None] * len(machine[1])
        if "faults" in ways:
            self.faults = list(tree(machine)[1])
        rows = entries(machine, tuple(self.faults))
        self.rows = [dict(row) for row in rows]
        self.bases = list(laid(rows)[0]) if "laid" in ways else [room * machine[0] for room in range(len(rows))]

    def cells(self, but=None):
        """What is taken, as a dict, but by one room."""
        taken = {}
        for room, row in enumerate(self.rows):
            for number, goal in row.items():
                if room != but:
                    assert self.bases[room] + number not in taken
                    taken[self.bases[room] + number] = (room, goal)
        return taken

    def picture(self):
        taken = self.cells()
        cells = tuple(taken.get(at) for at in range(max(taken, default=-1) + 1))
        return (tuple(self.classes), tuple(self.faults), tuple(self.bases), cells)

    def size(self):
        taken = self.cells()
        return (len(set(self.classes)), len(taken), max(taken, default=-1) + 1)

    def next(self, room, number):
        if room is None:
            return None
        return self.rows[room][number] if number in self.rows[room] else self.next(self.faults[room], number)

    def write(self, room, number, goal):
        row = self.rows[room]
        others = self.cells(but=room)
        if number not in row and self.bases[room] + number in others:
            self.bases[room] = next(
                base for base in itertools.count() if all(base + one not in others for one in [*row, number])
            )
        row[number] = goal

    def change(self, room, letter, goal):
        told = self.next(room, self.classes[letter])
        if told == goal:
            return 0
        many = 0
        old = self.classes[letter]
        if self.classes.count(old) > 1:
            self.classes[letter] = len(set(self.classes))
            for other, row in enumerate(self.rows):
                if old in row:
                    self.write(other, self.classes[letter], row[old])
                    many += 1
        number = self.classes[letter]
        for other, row in enumerate(self.rows):
            if self.faults[other] == room and number not in row:
                self.write(other, number, told)
                many += 1
        if self.next(self.faults[room], number) == goal:
            del self.rows[room][number]
        else:
            self.write(room, number, goal)
        return many + 1
