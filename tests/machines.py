"""Machines that several tests are made with."""


def ring(rooms, finals):
    """One letter leads from room to room, and around."""
    return (1, tuple(((at + 1) % rooms,) for at in range(rooms)), finals)


def lock(code, letters, finals):
    """The code leads along the rooms, any other letter back to room 0; the last room stays."""
    rows = [tuple(at + 1 if letter == right else 0 for letter in range(letters)) for at, right in enumerate(code)]
    rows.append((len(code),) * letters)
    return (letters, tuple(rows), finals)


def renumbered(machine, places):
    """The same machine, its room r called places[r]; places[0] is 0."""
    letters, table, finals = machine
    rows = [None] * len(table)
    for room, row in enumerate(table):
        rows[places[room]] = tuple(None if goal is None else places[goal] for goal in row)
    return (letters, tuple(rows), tuple(sorted(places[room] for room in finals)))


def chance_machine(chance, letters, rooms):
    goals = [None, *range(rooms), *range(rooms)]
    table = tuple(tuple(chance.choice(goals) for _ in range(letters)) for _ in range(rooms))
    return (letters, table, tuple(room for room in range(rooms) if chance.random() < 0.5))


def begun_at(machine, room):
    """The machine that begins in this room: it and room 0 have changed their numbers."""
    places = list(range(len(machine[1])))
    places[0], places[room] = room, 0
    return renumbered(machine, places)


# Each is refused with this `row`, whatever is handed in behind it.
NO_MACHINES = (
    (None, 0),
    ([1, ((0,),), ()], 0),
    ((1, ((0,),)), 0),
    ((0, ((),), ()), 0),
    ((31, ((0,) * 31,), ()), 0),
    ((True, ((0,),), ()), 0),
    ((1, (), ()), 0),
    ((1, [(0,)], ()), 0),
    ((2, ((2, 0), (1, 0)), ()), 0),
    ((2, ((1, 0), (True, 0), (0, 0)), ()), 1),
    ((2, ((1, 0), (0, 0), (0,)), (9,)), 2),
    ((1, ((0,),) * 41, ()), 40),
    ((1, ((0,),) * 6, (1, 1)), 6),
    ((1, ((0,),) * 3, [0]), 3),
)
