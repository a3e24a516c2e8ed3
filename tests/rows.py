"""Rows of entries that several tests are made with."""


def row_of(letters, goal=0):
    return tuple((letter, goal) for letter in letters)


def rows_of(*rows):
    """Rows by their letters; each tells its own number, so that cells show whose they are."""
    return tuple(row_of(letters, number) for number, letters in enumerate(rows))


def chance_rows(chance, count, letters, entries):
    rows = [sorted(chance.sample(range(letters), chance.randint(0, entries))) for _ in range(count)]
    return tuple(tuple((letter, chance.choice([None, 0, 7, 39])) for letter in row) for row in rows)


NO_ROWS = {
    "a list": [(0, 0)],
    "None": None,
    "a number": 0,
    "a text": "00",
    "an entry that is a list": ([0, 0],),
    "an entry that is None": (None,),
    "an entry that is a number": (0, 0),
    "an entry of one": ((0,),),
    "an entry of three": ((0, 0, 0),),
    "an empty entry": ((),),
    "letters that fall": ((1, 0), (0, 0)),
    "letters that fall at last": ((0, 0), (5, 0), (29, 0), (28, 0)),
    "a letter twice": ((4, 1), (4, 1)),
    "a letter twice, unlike": ((4, 1), (4, None)),
    "letter 30": ((0, 0), (30, 0)),
    "letter -1": ((-1, 0), (0, 0)),
    "letter True": ((True, 0),),
    "letter False": ((False, 0),),
    "letter None": ((None, 0),),
    "a text as letter": (("0", 0),),
    "a tuple as letter": (((0,), 0),),
    "next room 40": ((0, 0), (1, 40)),
    "next room -1": ((0, -1),),
    "next room True": ((0, True),),
    "next room False": ((0, None), (1, False)),
    "a text as next room": ((0, "1"),),
    "a list as next room": ((0, []),),
}
