"""Presses played with, step by step."""

from pressedtables.errors import BadLetter, BadRoom, BadStep
from pressedtables.pressed import Pressed
from pressedtables.words import is_below, is_goal

MOST_STEPS = 300
NUMBER_LIMIT = 100
NUMBERS_BEHIND = {"change": 3, "next": 2, "tidy": 0}


def is_step(step):
    if not isinstance(step, tuple) or not step:
        return False
    word, *numbers = step
    if not isinstance(word, str) or word not in NUMBERS_BEHIND or len(numbers) != NUMBERS_BEHIND[word]:
        return False
    if not all(is_below(number, NUMBER_LIMIT) for number in numbers[:2]):
        return False
    return all(is_goal(number, NUMBER_LIMIT) for number in numbers[2:])


def check_steps(steps):
    """Refuse what is no steps; what holds none can't be from its start on."""
    if not isinstance(steps, (list, tuple)):
        raise BadStep(0)
    for number, step in enumerate(steps):
        if number == MOST_STEPS or not is_step(step):
            raise BadStep(number)


def done(press, step):
    word, *numbers = step
    if word == "tidy":
        return press.tidy()
    if word == "next":
        return press.next(*numbers)
    return press.change(*numbers)


def told_by_step(press, step):
    try:
        return done(press, step)
    except (BadRoom, BadLetter):
        return "no"


def played(machine, ways, steps):
    """Tell what each step tells, "no" for one that is refused, and the press behind them."""
    press = Pressed(machine, ways)
    check_steps(steps)
    return [told_by_step(press, step) for step in steps], press
