"""Rows told as lists, each in its cheapest form."""

from pressedtables.errors import BadLists
from pressedtables.words import check_letter, check_machine, check_room, is_below


def pairs_of(row):
    return tuple((letter, goal) for letter, goal in enumerate(row) if goal is not None)


def runs_of(row):
    """Tell (from, to, next) of letters side by side with the same next room, both ends being within."""
    runs = []
    for letter, goal in pairs_of(row):
        if runs and runs[-1][1] == letter - 1 and runs[-1][2] == goal:
            runs[-1] = (runs[-1][0], letter, goal)
        else:
            runs.append((letter, letter, goal))
    return tuple(runs)


def forms_of(table, room):
    """All forms of a room's row, each behind how many numbers it takes."""
    row = table[room]
    pairs = pairs_of(row)
    runs = runs_of(row)
    others = [(1 + 2 * len(pairs), ("pairs", pairs)), (1 + 3 * len(runs), ("runs", runs)), (len(row), ("full", row))]
    first = table.index(row)
    if first < room:
        return [(1, ("same", first)), *others]
    return others


def listed(machine):
    """Tell how many numbers the table takes, and for each room its form."""
    check_machine(machine)
    table = machine[1]
    # Of as cheap ones min takes the first.
    cheapest = [min(forms_of(table, room), key=lambda one: one[0]) for room in range(len(table))]
    return sum(many for many, form in cheapest), tuple(form for many, form in cheapest)


def is_form(form, room, letters):
    """Whether a room's form can be, as far as forms are looked at."""
    sort, told = form
    if sort == "same":
        return is_below(told, room)
    return sort != "full" or len(told) == letters


def check_forms(forms, letters):
    for room, form in enumerate(forms):
        if not is_form(form, room, letters):
            raise BadLists(room)


def next_in_runs(runs, letter):
    for start, end, goal in runs:
        if start <= letter <= end:
            return goal
    return None


def looked(letters, forms, room, letter):
    """Tell the next room, or None, by forms as listed tells them."""
    check_forms(forms, letters)
    check_room(room, len(forms))
    check_letter(letter, letters)
    sort, told = forms[room]
    while sort == "same":
        sort, told = forms[told]
    if sort == "full":
        return told[letter]
    if sort == "pairs":
        return dict(told).get(letter)
    return next_in_runs(told, letter)
