"""Letters put together that lead on alike from all rooms."""

from pressedtables.words import check_machine


def numbered(signs):
    """Tell for each sign its number among the unlike ones, as they first come up."""
    numbers = {}
    for sign in signs:
        if sign not in numbers:
            numbers[sign] = len(numbers)
    return [numbers[sign] for sign in signs]


def column(table, letter):
    return tuple(row[letter] for row in table)


def first_places(numbers):
    """Tell where each number first stands, numbers rising, as numbered gives them."""
    places = []
    for place, number in enumerate(numbers):
        if number == len(places):
            places.append(place)
    return places


def classed(machine):
    """Tell for each letter its class, and the machine by classes."""
    check_machine(machine)
    letters, table, finals = machine
    classes = numbered([column(table, letter) for letter in range(letters)])
    least_letters = first_places(classes)
    rows = [tuple(row[letter] for letter in least_letters) for row in table]
    return tuple(classes), (len(least_letters), tuple(rows), finals)
