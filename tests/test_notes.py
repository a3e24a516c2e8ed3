"""Point 19: written, BadPicture; read, BadText with its `row`."""

import random
import unittest

from pressedtables.errors import BadPicture, BadText
from pressedtables.judging import judged
from pressedtables.notes import read, written
from pressedtables.pressed import Pressed
from tests.machines import chance_machine
from tests.pictures import NO_FOURS, NO_PARTS, PARTS, with_part
from tests.presses import ALL_WAYS, SETS_OF_WAYS, chance_change, changed
from tests.refusals import refused

# Two letters, three rooms.
ROWS = ("classes 0 1", "faults - 0 -", "bases 0 2 4", "cells 0:1 - - 1:-")
WIDEST = ((99,) * 30, (*range(1, 40), None), (9999,) * 40, ((39, 39), None, (0, None), (39, 0)) * 1000)
# By a row's words: what no number can be, and what no cell can be.
NO_NUMBERS = (
    "00", "01", "007", "0000", "12345", "10000", "00000", "-1", "+1", "-0", "--", "1-", "1.0", "1,", "x", "0x1", "1e1",
    "None", "True", ":", "1:", ":1", "1:1", "1:-", "1_0", "'1'", "(1)", "~", "!", "1:1:1", "classes",
)
NO_CELLS = (
    "0", "1", "12", "-:3", "-:-", ":", "1:", ":1", ":-", "-:", "1::1", "1:1:1", "1:1:", ":1:1", "01:1", "1:01", "00:1",
    "1:00", "12345:1", "1:12345", "+1:1", "1:+1", "-1:1", "1:-1", "1:--", "--", "1;1", "1-1", "x:1", "1:x", "1:None",
    "None", "~", "1,1",
)


def text_of(rows):
    return "\n".join(rows)


def with_row(number, row, rows=ROWS):
    return text_of([row if at == number else one for at, one in enumerate(rows)])


def blanks_too_many(row):
    """The row with a blank more, or a word that is none."""
    yield from (" " + row, row + " ", row.replace(" ", "  ", 1), "  ".join(row.rsplit(" ", 1)), row.replace(" ", "  "))


class TestWritten(unittest.TestCase):
    def test_as_the_document_shows(self):
        self.assertEqual(written(PARTS), text_of(ROWS))
        picture = ((0, 1, 0), (None, None, 0), (2, 0, 2), ((1, 0), None, (0, None), (2, 2)))
        self.assertEqual(written(picture), "classes 0 1 0\nfaults - - 0\nbases 2 0 2\ncells 1:0 - 0:- 2:2")

    def test_a_cell(self):
        picture = ((0,), (None,) * 8, (0,) * 8, ((3, 7),))
        self.assertEqual(written(picture), "classes 0\nfaults" + " -" * 8 + "\nbases" + " 0" * 8 + "\ncells 3:7")

    def test_no_cells(self):
        self.assertEqual(written(((0,), (None,), (0,), ())), "classes 0\nfaults -\nbases 0\ncells")

    def test_bounds(self):
        cells = " 39:39 - 0:- 39:0" * 1000
        faults = "".join(f" {room}" for room in range(1, 40)) + " -"
        told = "classes" + " 99" * 30 + "\nfaults" + faults + "\nbases" + " 9999" * 40 + "\ncells" + cells
        self.assertEqual(written(WIDEST), told)
        self.assertEqual(read(told), WIDEST)

    def test_rings_are_written(self):
        picture = ((0,), (0,), (0,), ())
        self.assertEqual(written(picture), "classes 0\nfaults 0\nbases 0\ncells")
        self.assertEqual(read(written(picture)), picture)

    def test_kind(self):
        self.assertIs(type(written(PARTS)), str)


class TestReadAgain(unittest.TestCase):
    def comes_back(self, picture):
        again = read(written(picture))
        self.assertEqual(repr(again), repr(picture))

    def test_presses_by_all_ways(self):
        chance = random.Random(190)
        for _ in range(20):
            machine = chance_machine(chance, chance.randint(1, 6), chance.randint(1, 6))
            for ways in ALL_WAYS:
                self.comes_back(Pressed(machine, ways).picture())

    def test_behind_changes(self):
        chance = random.Random(191)
        for ways in SETS_OF_WAYS:
            machine = chance_machine(chance, 5, 6)
            press = Pressed(machine, ways)
            for _ in range(30):
                step = chance_change(chance, machine)
                machine = changed(machine, *step)
                press.change(*step)
                self.comes_back(press.picture())
                self.assertIsNone(judged(machine, read(written(press.picture()))))

    def test_letters_and_rooms_at_their_bounds(self):
        for letters in (1, 30):
            for rooms in (1, 40):
                machine = chance_machine(random.Random(192), letters, rooms)
                for ways in SETS_OF_WAYS:
                    self.comes_back(Pressed(machine, ways).picture())
                    self.comes_back(Pressed((letters, ((None,) * letters,) * rooms, ()), ways).picture())

    def test_nones(self):
        self.comes_back(((0, 99), (None, None), (0, 9999), (None, None)))
        self.comes_back(((0,), (None, 0), (1, 10), (None, (0, None), (1, 1), None)))
        self.comes_back(((10, 100 - 1), (1, None), (100, 1000), ((0, None),) * 4000))
        self.comes_back(((0,), (None,), (0,), ()))
        self.comes_back(PARTS)
        self.comes_back(WIDEST)

    def test_texts_come_back_too(self):
        for text in (text_of(ROWS), "classes 7\nfaults -\nbases 1234\ncells", "classes 0\nfaults -\nbases 0\ncells -"):
            self.assertEqual(written(read(text)), text)

    def test_tuples(self):
        told = read(text_of(ROWS))
        self.assertEqual(told, PARTS)
        self.assertEqual([type(told), *(type(part) for part in told)], [tuple] * 5)
        self.assertEqual({type(cell) for cell in told[3]}, {tuple, type(None)})
        self.assertEqual({type(number) for number in told[0]}, {int})


class TestBadPicture(unittest.TestCase):
    def part_of(self, picture):
        return refused(BadPicture, "part", written, picture)

    def test_no_tuple_of_four(self):
        for picture in NO_FOURS:
            with self.subTest(picture):
                self.assertEqual(self.part_of(picture), 4)

    def test_each_part(self):
        for part in range(4):
            for wrong in NO_PARTS[part]:
                with self.subTest(part, wrong=wrong):
                    self.assertEqual(self.part_of(with_part(part, wrong)), part)

    def test_other_counts(self):
        self.assertEqual(self.part_of(with_part(0, ())), 0)
        self.assertEqual(self.part_of(with_part(0, (0,) * 31)), 0)
        self.assertEqual(self.part_of(with_part(1, ())), 1)
        self.assertEqual(self.part_of(with_part(1, (None,) * 41)), 1)
        self.assertEqual(self.part_of(((0,), (None,) * 41, (0,) * 41, ())), 1)
        self.assertEqual(self.part_of(((0,), (), (), ())), 1)
        for count in (0, 1, 2, 4, 40):
            self.assertEqual(self.part_of(with_part(2, (0,) * count)), 2)
        self.assertEqual(self.part_of(with_part(1, (None,) * 2)), 2)
        self.assertEqual(self.part_of(with_part(1, (None,) * 4)), 2)

    def test_letters_are_as_many_as_there_are_classes(self):
        for count in (1, 3, 30):
            self.assertEqual(written(with_part(0, (5,) * count)), with_row(0, "classes" + " 5" * count))

    def test_rooms_are_as_many_as_there_are_faults(self):
        for rooms in (1, 2, 3, 40):
            picture = ((0,), (None,) * rooms, (0,) * rooms, ((rooms - 1, rooms - 1),))
            self.assertEqual(written(picture)[-1], str(rooms - 1)[-1])
            self.assertEqual(self.part_of(with_part(3, ((rooms, 0),), picture)), 3)
            self.assertEqual(self.part_of(with_part(3, ((0, rooms),), picture)), 3)
            self.assertEqual(self.part_of(with_part(1, (None,) * (rooms - 1) + (rooms,), picture)), 1)

    def test_the_first_part_of_several(self):
        for first in range(4):
            for second in range(first + 1, 4):
                with self.subTest(first, second=second):
                    picture = with_part(first, NO_PARTS[first][-1], with_part(second, NO_PARTS[second][3]))
                    self.assertEqual(self.part_of(picture), first)
        self.assertEqual(self.part_of((None,) * 4), 0)
        self.assertEqual(self.part_of(((0,), None, None, None)), 1)


class TestBadText(unittest.TestCase):
    def row_of(self, text):
        return refused(BadText, "row", read, text)

    def test_no_text(self):
        for text in (None, 0, True, [], (), list(ROWS)):
            with self.subTest(text):
                self.assertEqual(self.row_of(text), 0)

    def test_an_empty_text(self):
        self.assertEqual(self.row_of(""), 0)

    def test_rows_that_lack(self):
        for count in (1, 2, 3):
            self.assertEqual(self.row_of(text_of(ROWS[:count])), count)
            self.assertEqual(self.row_of(text_of(ROWS[:count]) + "\n"), count)
        self.assertEqual(self.row_of("\n" + text_of(ROWS)), 0)
        self.assertEqual(self.row_of(text_of(ROWS[1:])), 0)
        self.assertEqual(self.row_of(text_of([ROWS[0], *ROWS[2:]])), 1)

    def test_a_fifth_row(self):
        for fifth in ("", " ", "cells", "cells 0:1", "more", ROWS[0]):
            self.assertEqual(self.row_of(text_of([*ROWS, fifth])), 4)
            self.assertEqual(self.row_of(text_of([*ROWS, fifth, fifth])), 4)

    def test_another_first_word(self):
        for number, row in enumerate(ROWS):
            rest = row.partition(" ")[2]
            name = row.partition(" ")[0]
            for word in ("", "0", "-", name.title(), name.upper(), name + ":", name[:-1], name + "s"):
                with self.subTest(number, word=word):
                    self.assertEqual(self.row_of(with_row(number, f"{word} {rest}")), number)
            self.assertEqual(self.row_of(with_row(number, rest)), number)
            self.assertEqual(self.row_of(with_row(number, "")), number)
            for other in ROWS[:number] + ROWS[number + 1:]:
                self.assertEqual(self.row_of(with_row(number, other)), number)

    def test_a_blank_too_many(self):
        for number, row in enumerate(ROWS):
            for wrong in blanks_too_many(row):
                with self.subTest(wrong):
                    self.assertEqual(self.row_of(with_row(number, wrong)), number)
        self.assertEqual(self.row_of(with_row(3, "cells ")), 3)
        self.assertEqual(self.row_of(with_row(3, " cells")), 3)

    def test_no_number(self):
        for wrong in (*NO_NUMBERS, "-"):
            for number in (0, 2):
                self.each_place(number, wrong)
        for wrong in NO_NUMBERS:
            self.each_place(1, wrong)

    def test_no_cell(self):
        for wrong in NO_CELLS:
            self.each_place(3, wrong)

    def each_place(self, number, wrong):
        """At the first, a middle and the last place of a row, by its words, so ahead of the parts."""
        beyond = ("classes 100", *ROWS[1:])
        name, *words = ROWS[number].split(" ")
        for place in (0, 1, len(words) - 1):
            row = [name, *words]
            row[place + 1] = wrong
            with self.subTest(number, row=row):
                self.assertEqual(self.row_of(with_row(number, " ".join(row))), number)
                self.assertEqual(self.row_of(with_row(number, " ".join(row), beyond)), number)
        self.assertEqual(self.row_of(with_row(number, f"{name} {wrong} {wrong}")), number)

    def test_the_first_row_by_its_words(self):
        wrongs = ("classes 01", "faults x", "bases -", "cells 1")
        for first in range(4):
            for second in range(first + 1, 4):
                text = with_row(first, wrongs[first], with_row(second, wrongs[second]).split("\n"))
                self.assertEqual(self.row_of(text), first)
            self.assertEqual(self.row_of(with_row(first, wrongs[first]) + "\n"), first)
            self.assertEqual(self.row_of(text_of([*ROWS[:first], wrongs[first]])), first)

    def test_parts_that_cannot_be(self):
        for number, row in (
            (0, "classes"), (0, "classes 0 100"), (0, "classes 9999 0"), (0, "classes" + " 0" * 31), (1, "faults"),
            (1, "faults 3 - -"), (1, "faults - - 3"), (1, "faults - 99 -"), (1, "faults" + " -" * 41), (2, "bases"),
            (2, "bases 0 0"), (2, "bases 0 0 0 0"), (3, "cells 3:0"), (3, "cells 0:3"), (3, "cells - 3:-"),
            (3, "cells 9999:0"), (3, "cells 0:1 2:9999"), (3, "cells" + " -" * 4001), (3, "cells" + " 0:-" * 4001),
        ):
            with self.subTest(row):
                self.assertEqual(self.row_of(with_row(number, row)), number)
        self.assertEqual(self.row_of(with_row(1, "faults - -")), 2)

    def test_parts_that_are_let_by(self):
        for number, row in (
            (0, "classes 99"), (0, "classes" + " 0" * 30), (1, "faults 0 1 2"), (2, "bases 9999 9999 0"), (3, "cells"),
            (3, "cells -"), (3, "cells - - -"), (3, "cells 2:2 -"), (3, "cells" + " 2:-" * 4000),
        ):
            with self.subTest(row):
                self.assertEqual(written(read(with_row(number, row))), with_row(number, row))

    def test_words_ahead_of_parts(self):
        beyond = ("classes 100", "faults 3 - -", "bases 0", "cells 3:3")
        wrongs = ("classes 01", "faults x", "bases -", "cells 1")
        for part in range(4):
            for number in range(4):
                if part != number:
                    text = with_row(number, wrongs[number], with_row(part, beyond[part]).split("\n"))
                    self.assertEqual(self.row_of(text), number)
            self.assertEqual(self.row_of(with_row(part, beyond[part]) + "\n"), 4)
            for count in range(part + 1, 4):
                self.assertEqual(self.row_of(text_of(with_row(part, beyond[part]).split("\n")[:count])), count)

    def test_the_first_part_of_several(self):
        beyond = ("classes 100", "faults 3 - -", "bases 0", "cells 3:3")
        for first in range(4):
            for second in range(first + 1, 4):
                text = with_row(first, beyond[first], with_row(second, beyond[second]).split("\n"))
                self.assertEqual(self.row_of(text), first)


if __name__ == "__main__":
    unittest.main()
