"""All refusals of the program."""


class PressError(ValueError):
    """Any refusal."""


class BadMachine(PressError):
    """No machine: `row` is the first row that can't be, or what stands for it."""

    def __init__(self, row):
        super().__init__(f"no machine, seen at row {row}")
        self.row = row


class BadWord(PressError):
    """No word: `place` is that of the first letter that can't be."""

    def __init__(self, place):
        super().__init__(f"no word, seen at place {place}")
        self.place = place


class Unlike(PressError):
    """Two machines have not as many letters."""


class BadWays(PressError):
    """No tuple of unlike ways to press."""


class BadRoom(PressError):
    """No room of the machine."""


class BadLetter(PressError):
    """No letter of the machine."""


class BadFaults(PressError):
    """No faults: `room` is the first that can't be, or the least one in a ring."""

    def __init__(self, room):
        super().__init__(f"no faults, seen at room {room}")
        self.room = room


class BadDeep(PressError):
    """No such depth of faults."""


class BadRows(PressError):
    """No rows of entries: `row` is the first that can't be."""

    def __init__(self, row):
        super().__init__(f"no rows of entries, seen at row {row}")
        self.row = row


class TooMany(PressError):
    """More rooms or rows than the least is looked for among."""


class BadPicture(PressError):
    """No picture: `part` is the first part that can't be."""

    def __init__(self, part):
        super().__init__(f"no picture, seen at part {part}")
        self.part = part


class BadLists(PressError):
    """No forms of lists: `room` is the first whose form can't be."""

    def __init__(self, room):
        super().__init__(f"no forms, seen at room {room}")
        self.room = room


class BadList(PressError):
    """No list of words to look for: `number` is that of the first word that can't be."""

    def __init__(self, number):
        super().__init__(f"no list of words, seen at word {number}")
        self.number = number


class BadStep(PressError):
    """No steps of a play: `number` is that of the first step that can't be."""

    def __init__(self, number):
        super().__init__(f"no steps, seen at step {number}")
        self.number = number


class BadText(PressError):
    """No written picture: `row` is the first row that can't be."""

    def __init__(self, row):
        super().__init__(f"no written picture, seen at row {row}")
        self.row = row
