"""Pictures written as texts, and read again."""

from pressedtables.errors import BadPicture, BadText
from pressedtables.pictures import check_any_picture

NAMES = ("classes", "faults", "bases", "cells")
MOST_FIGURES = 4
NONE_SIGN = "-"


def note_of(value):
    return NONE_SIGN if value is None else str(value)


def note_of_cell(cell):
    return NONE_SIGN if cell is None else f"{cell[0]}:{note_of(cell[1])}"


def is_number(word):
    if not word.isdigit() or len(word) > MOST_FIGURES:
        return False
    return word == "0" or not word.startswith("0")


def is_number_or_none(word):
    return word == NONE_SIGN or is_number(word)


def is_cell_or_none(word):
    room, colon, goal = word.partition(":")
    return word == NONE_SIGN or (is_number(room) and is_number_or_none(goal))


def value_of(word):
    return None if word == NONE_SIGN else int(word)


def cell_of(word):
    if word == NONE_SIGN:
        return None
    room, colon, goal = word.partition(":")
    return int(room), value_of(goal)


# What is done with the words of each row.
WRITERS = (note_of, note_of, note_of, note_of_cell)
CHECKS = (is_number, is_number_or_none, is_number, is_cell_or_none)
READERS = (value_of, value_of, value_of, cell_of)


def row_of(part, number):
    writer = WRITERS[number]
    return " ".join([NAMES[number], *[writer(value) for value in part]])


def written(picture):
    """Tell the picture as a text of four rows."""
    check_any_picture(picture)
    return "\n".join(row_of(part, number) for number, part in enumerate(picture))


def can_stand(words, number):
    """Whether a row of this number can have these words."""
    check = CHECKS[number]
    return words[0] == NAMES[number] and all(check(word) for word in words[1:])


def check_words(rows):
    """Refuse rows by their words."""
    for number, words in enumerate(rows):
        if number == len(NAMES) or not can_stand(words, number):
            raise BadText(number)
    if len(rows) < len(NAMES):
        raise BadText(len(rows))


def part_of(words, number):
    reader = READERS[number]
    return tuple(reader(word) for word in words[1:])


def read(text):
    """Tell the picture that is written."""
    if not isinstance(text, str):
        raise BadText(0)
    rows = [row.split(" ") for row in text.split("\n")]
    check_words(rows)
    picture = tuple(part_of(words, number) for number, words in enumerate(rows))
    try:
        check_any_picture(picture)
    except BadPicture as refusal:
        raise BadText(refusal.part) from None
    return picture
