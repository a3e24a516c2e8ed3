"""Machines pressed: letters put together, rooms led on by faults, rows laid over one another, and changed in place."""

from pressedtables.classes import classed
from pressedtables.errors import BadWays
from pressedtables.faults import entries, tree
from pressedtables.laying import is_free, laid, least_free_base, put
from pressedtables.pictures import own_cell, tells
from pressedtables.plain import walked
from pressedtables.words import check_letter, check_machine, check_room, check_word

WAYS = ("classes", "faults", "laid")


def check_ways(ways):
    if not isinstance(ways, tuple):
        raise BadWays("ways are a tuple")
    for way in ways:
        if way not in WAYS or ways.count(way) > 1:
            raise BadWays("ways are classes, faults and laid, each at most once")


def laid_apart(rows, classes):
    """Tell bases and cells as laid does, but with room for all classes in each row."""
    bases = [room * classes for room in range(len(rows))]
    cells = []
    for room, row in enumerate(rows):
        put(cells, room, row, bases[room])
    return tuple(bases), tuple(cells)


def trim(cells):
    """Cells end with the last that is taken."""
    while cells and cells[-1] is None:
        cells.pop()


class Pressed:
    """A machine by its press, whose cells hold (room, next) or None."""

    def __init__(self, machine, ways):
        check_machine(machine)
        check_ways(ways)
        self.ways = ways
        self.finals = machine[2]
        self.press(machine)

    def press(self, machine):
        """Make the press anew."""
        classes, by_classes = tuple(range(machine[0])), machine
        if "classes" in self.ways:
            classes, by_classes = classed(machine)
        faults = (None,) * len(machine[1])
        if "faults" in self.ways:
            faults = tree(by_classes)[1]
        rows = entries(by_classes, faults)
        bases, cells = laid(rows) if "laid" in self.ways else laid_apart(rows, by_classes[0])
        self.classes = list(classes)
        self.faults = list(faults)
        self.bases = list(bases)
        self.cells = list(cells)

    def parts(self):
        return self.classes, self.faults, self.bases, self.cells

    def count_classes(self):
        """Classes are numbered from 0 on, each having letters."""
        return max(self.classes) + 1

    def check_asked(self, room, letter):
        check_room(room, len(self.faults))
        check_letter(letter, len(self.classes))

    def next(self, room, letter):
        """Tell the next room, or None."""
        self.check_asked(room, letter)
        return tells(self.parts(), room, letter)

    def run(self, word):
        """Tell the rooms come to, from room 0 on, and how the word ends."""
        check_word(word, len(self.classes))
        return walked(self.machine(), word)

    def machine(self):
        """Tell the plain machine."""
        parts = self.parts()
        letters = len(self.classes)
        rows = [tuple(tells(parts, room, letter) for letter in range(letters)) for room in range(len(self.faults))]
        return letters, tuple(rows), self.finals

    def size(self):
        """Tell how many classes, entries, and cells up to the last that is taken there are."""
        many = len([cell for cell in self.cells if cell is not None])
        return self.count_classes(), many, len(self.cells)

    def picture(self):
        """Tell for each letter its class, the faults, the bases, and the cells."""
        return tuple(tuple(part) for part in self.parts())

    def tidy(self):
        """Press the machine anew, and tell the size."""
        self.press(self.machine())
        return self.size()

    def change(self, room, letter, goal):
        """Set the next room, or None, and tell how many entries were written or dropped."""
        self.check_asked(room, letter)
        if goal is not None:
            check_room(goal, len(self.faults))
        if tells(self.parts(), room, letter) == goal:
            return 0
        many = self.part_from_class(letter) + self.keep_those_led_on(room, letter)
        number = self.classes[letter]
        if tells(self.parts(), self.faults[room], letter) == goal:
            self.drop(room, number)
        else:
            self.write(room, number, goal)
        return many + 1

    def part_from_class(self, letter):
        """Give the letter a class of its own, if it has none, and tell how many entries were written for it."""
        old = self.classes[letter]
        if self.classes.count(old) == 1:
            return 0
        new = self.count_classes()
        self.classes[letter] = new
        many = 0
        for room in range(len(self.faults)):
            cell = own_cell(self.parts(), room, old)
            if cell is not None:
                self.write(room, new, cell[1])
                many += 1
        return many

    def keep_those_led_on(self, room, letter):
        """Write for the rooms led on to this one at once what they tell by it, and tell how many entries that took."""
        number = self.classes[letter]
        told = tells(self.parts(), room, letter)
        many = 0
        for other in range(len(self.faults)):
            if self.faults[other] == room and own_cell(self.parts(), other, number) is None:
                self.write(other, number, told)
                many += 1
        return many

    def write(self, room, number, goal):
        """Write an entry at its place, also over the one that is there, unless another room has the cell."""
        at = self.bases[room] + number
        if is_free(self.cells, at) or self.cells[at][0] == room:
            put(self.cells, room, ((number, goal),), self.bases[room])
        else:
            self.lay_anew(room, (number, goal))

    def lay_anew(self, room, entry):
        row = [*self.take_out(room), entry]
        self.bases[room] = least_free_base(self.cells, row)
        put(self.cells, room, row, self.bases[room])
        trim(self.cells)

    def take_out(self, room):
        """Free the room's cells, and tell the entries that were there."""
        base = self.bases[room]
        row = [(at - base, cell[1]) for at, cell in enumerate(self.cells) if cell is not None and cell[0] == room]
        for number, goal in row:
            self.cells[base + number] = None
        return row

    def drop(self, room, number):
        self.cells[self.bases[room] + number] = None
        trim(self.cells)
