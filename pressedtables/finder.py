"""Words looked for in texts, all at once, by one machine."""

from pressedtables.errors import BadList
from pressedtables.words import MOST_ROOMS, check_word, is_below, is_letter_count

MOST_WORDS = 12
LONGEST_WORD = 12


def is_sought(word, letters):
    if not isinstance(word, tuple) or not 1 <= len(word) <= LONGEST_WORD:
        return False
    return all(is_below(letter, letters) for letter in word)


def check_list(letters, words):
    """Refuse what can't be looked for, but for too many beginnings."""
    if not is_letter_count(letters) or not isinstance(words, list) or not words:
        raise BadList(0)
    for number, word in enumerate(words):
        if number == MOST_WORDS or not is_sought(word, letters) or word in words[:number]:
            raise BadList(number)


def numbered_beginnings(words):
    """Tell the room of each beginning: 0 is that of the empty one."""
    rooms = {(): 0}
    for word in words:
        for count in range(1, len(word) + 1):
            rooms.setdefault(word[:count], len(rooms))
    return rooms


class Finder:
    """Its rooms are the words' beginnings."""

    def __init__(self, letters, words):
        check_list(letters, words)
        rooms = numbered_beginnings(words)
        if len(rooms) > MOST_ROOMS:
            raise BadList(len(words))
        self.letters = letters
        self.rooms = rooms
        self.beginnings = list(rooms)
        self.numbers = {word: number for number, word in enumerate(words)}

    def longest_end(self, text):
        """Tell the room of the longest end of the text that begins a word; the empty one always does."""
        start = 0
        while text[start:] not in self.rooms:
            start += 1
        return self.rooms[text[start:]]

    def next_at(self, room, letter):
        """An end that begins a word is at most a letter longer than the room's beginning is."""
        return self.longest_end((*self.beginnings[room], letter))

    def words_behind(self, room):
        """Tell the numbers of all words that a text that has come to this room ends with, the longest first."""
        beginning = self.beginnings[room]
        ends = [beginning[start:] for start in range(len(beginning))]
        return [self.numbers[end] for end in ends if end in self.numbers]

    def found(self, text):
        """Tell the place behind each word that stands in the text, and its number."""
        check_word(text, self.letters)
        places = []
        room = 0
        for place, letter in enumerate(text):
            room = self.next_at(room, letter)
            places.extend([(place + 1, number) for number in self.words_behind(room)])
        return places

    def machine(self):
        """Tell the machine that is good just behind texts that end with a word, and never breaks."""
        rooms = list(range(len(self.beginnings)))
        table = [tuple(self.next_at(room, letter) for letter in range(self.letters)) for room in rooms]
        finals = [room for room in rooms if self.words_behind(room)]
        return self.letters, tuple(table), tuple(finals)

    def suffixes(self):
        """Tell for each room that of its longest end, shorter than itself, that begins a word."""
        return [None] + [self.longest_end(beginning[1:]) for beginning in self.beginnings[1:]]

    def many_steps(self, text):
        """Tell how many steps to suffixes the text takes."""
        check_word(text, self.letters)
        suffixes = self.suffixes()
        many = 0
        room = 0
        for letter in text:
            while room != 0 and (*self.beginnings[room], letter) not in self.rooms:
                room = suffixes[room]
                many += 1
            room = self.next_at(room, letter)
        return many
