"""Point 17: Finder, BadList with its `number`, found, machine, suffixes and many_steps."""

import random
import unittest

from pressedtables.errors import BadList, BadWord
from pressedtables.finder import Finder
from pressedtables.plain import run
from tests.refusals import refused

NO_LETTER_COUNTS = (0, 31, -1, True, False, None, "3", (3,), [3], 100)
NO_WORDS = (None, 0, True, "01", [0], [], (), (0,) * 13, (0, 3), (3,), (-1,), (0, 1, True), (False,), (None,), ("0",),
            ((0,),), (0, [], 0))
TWELVE = [(0,), (1,), (2,), (0, 1), (1, 0), (0, 0), (1, 1), (2, 2), (0, 1, 2), (2, 1, 0), (1, 2), (2, 0)]


def in_letters(text):
    return [ord(sign) - ord("a") for sign in text]


def words_of(*words):
    return [tuple(in_letters(word)) for word in words]


def beginnings(words):
    """The beginnings as the document numbers them."""
    told = [()]
    for word in words:
        told += [word[:count] for count in range(1, len(word) + 1) if word[:count] not in told]
    return told


def tried_found(words, text):
    """Each place, each word, the longest first."""
    told = []
    for place in range(len(text) + 1):
        ends = [(-len(word), number) for number, word in enumerate(words) if tuple(text[:place][-len(word):]) == word]
        told += [(place, number) for _, number in sorted(ends)]
    return told


def longest_end(rooms, text):
    ends = [tuple(text[start:]) for start in range(len(text) + 1)]
    return rooms.index(max((end for end in ends if end in rooms), key=len))


def tried_machine(letters, words):
    """Each room is that of the longest end of its beginning and the letter."""
    rooms = beginnings(words)
    table = tuple(tuple(longest_end(rooms, [*one, letter]) for letter in range(letters)) for one in rooms)
    finals = tuple(at for at, one in enumerate(rooms) if any(one[start:] in words for start in range(len(one))))
    return (letters, table, finals)


def tried_steps(words, text):
    """Letter by letter, by the beginnings themselves."""
    rooms = beginnings(words)
    at, many = (), 0
    for letter in text:
        while at and (*at, letter) not in rooms:
            at = rooms[longest_end(rooms, at[1:])]
            many += 1
        at = (*at, letter) if (*at, letter) in rooms else ()
    return many


def chance_words(chance, letters):
    """As many words as have 39 beginnings at most."""
    words = []
    for _ in range(chance.randint(1, 12)):
        word = tuple(chance.randrange(letters) for _ in range(chance.choice([1, 2, 2, 3, 4, 5, 12])))
        if word not in words and len(beginnings([*words, word])) <= 40:
            words.append(word)
    return words


def sought():
    """Letters and words of all sorts."""
    chance = random.Random(170)
    yield from ((1, [(0,)]), (1, [(0,) * 12]), (30, [(29,)]), (3, TWELVE))
    yield (26, words_of("he", "she", "his", "hers"))
    yield (2, [(0,) * count for count in range(1, 13)])
    yield (2, [(0,) * count for count in range(12, 0, -1)])
    for _ in range(60):
        letters = chance.choice([1, 2, 2, 3, 30])
        words = chance_words(chance, letters)
        yield (letters, words)


class TestFound(unittest.TestCase):
    def test_he_she_his_hers(self):
        finder = Finder(26, words_of("he", "she", "his", "hers"))
        self.assertEqual(finder.found(in_letters("ushers")), [(4, 1), (4, 0), (6, 3)])
        self.assertEqual(finder.found(in_letters("ahishers")), [(4, 2), (6, 1), (6, 0), (8, 3)])
        self.assertEqual(finder.found(in_letters("hhe")), [(3, 0)])
        self.assertEqual(finder.found(in_letters("xyz")), [])

    def test_one_word(self):
        finder = Finder(2, [(0, 1)])
        self.assertEqual(finder.found([0, 1, 0, 1]), [(2, 0), (4, 0)])
        self.assertEqual(finder.found([0, 0, 1]), [(3, 0)])
        self.assertEqual(finder.found([0, 1]), [(2, 0)])
        self.assertEqual(finder.found([1, 0]), [])

    def test_one_letter(self):
        self.assertEqual(Finder(1, [(0,)]).found([0, 0, 0]), [(1, 0), (2, 0), (3, 0)])

    def test_words_of_twelve_letters(self):
        self.assertEqual(Finder(1, [(0,) * 12]).found([0] * 14), [(12, 0), (13, 0), (14, 0)])
        self.assertEqual(Finder(2, [(0,) * 11 + (1,)]).found([0] * 15 + [1]), [(16, 0)])

    def test_texts_of_no_letters(self):
        for letters, words in sought():
            finder = Finder(letters, words)
            self.assertEqual(finder.found([]), [])
            self.assertEqual(finder.many_steps([]), 0)

    def test_words_over_one_another(self):
        finder = Finder(2, [(0, 1, 0), (1, 0, 1)])
        self.assertEqual(finder.found([0, 1, 0, 1, 0]), [(3, 0), (4, 1), (5, 0)])

    def test_of_one_place_the_longest_first(self):
        words = [(0,), (0, 0, 0), (0, 0)]
        self.assertEqual(Finder(1, words).found([0] * 3), [(1, 0), (2, 2), (2, 0), (3, 1), (3, 2), (3, 0)])
        finder = Finder(26, words_of("b", "ab", "bab", "abab"))
        self.assertEqual(finder.found(in_letters("abab")), [(2, 1), (2, 0), (4, 3), (4, 2), (4, 1), (4, 0)])

    def test_words_that_are_others_beginnings(self):
        finder = Finder(3, [(0, 1, 2), (0, 1), (0,)])
        self.assertEqual(finder.found([0, 1, 2]), [(1, 2), (2, 1), (3, 0)])

    def test_words_within_others(self):
        finder = Finder(26, words_of("abcd", "bc"))
        self.assertEqual(finder.found(in_letters("abcd")), [(3, 1), (4, 0)])
        self.assertEqual(finder.found(in_letters("abce")), [(3, 1)])

    def test_twelve_words_in_a_text_of_two_hundred(self):
        text = [0] * 200
        words = [(0,) * count for count in range(1, 13)]
        told = Finder(1, words).found(text)
        self.assertEqual(told, [(at, count - 1) for at in range(1, 201) for count in range(min(at, 12), 0, -1)])

    def test_drawn_texts(self):
        chance = random.Random(171)
        for letters, words in sought():
            finder = Finder(letters, words)
            for count in (1, 2, 7, 30, 200):
                text = []
                while len(text) < count:
                    word = chance.choice(words)
                    text += chance.choice([word, word[:2], (chance.randrange(letters),)])
                self.assertEqual(finder.found(text[:count]), tried_found(words, text[:count]))
                self.assertEqual(finder.many_steps(text[:count]), tried_steps(words, text[:count]))

    def test_kinds(self):
        told = Finder(1, [(0,)]).found([0])
        self.assertIs(type(told), list)
        self.assertIs(type(told[0]), tuple)


class TestMachine(unittest.TestCase):
    def test_he_she_his_hers(self):
        words = words_of("he", "she", "his", "hers")
        finder = Finder(26, words)
        rooms = ["", "h", "he", "s", "sh", "she", "hi", "his", "her", "hers"]
        letters, table, finals = finder.machine()
        self.assertEqual((letters, len(table), finals), (26, 10, (2, 5, 7, 9)))
        self.assertEqual(finder.suffixes(), [None, 0, 0, 0, 1, 2, 0, 3, 0, 3])
        for before, sign, behind in (
            ("", "h", "h"), ("", "s", "s"), ("", "e", ""), ("h", "e", "he"), ("h", "h", "h"), ("she", "r", "her"),
            ("she", "h", "h"), ("she", "s", "s"), ("his", "h", "sh"), ("hers", "h", "sh"), ("sh", "i", "hi"),
            ("hers", "e", ""),
        ):
            with self.subTest(before, sign=sign):
                self.assertEqual(table[rooms.index(before)][ord(sign) - 97], rooms.index(behind))

    def test_rooms_word_by_word_each_once(self):
        machine = Finder(3, [(0, 1), (0, 2), (1,), (0, 1, 2)]).machine()
        # 1 is (0,), 2 is (0, 1), 3 is (0, 2), 4 is (1,), 5 is (0, 1, 2).
        self.assertEqual(machine, (3, (
            (1, 4, 0), (1, 2, 3), (1, 4, 5), (1, 4, 0), (1, 4, 0), (1, 4, 0),
        ), (2, 3, 4, 5)))

    def test_one_letter(self):
        self.assertEqual(Finder(1, [(0,)]).machine(), (1, ((1,), (1,)), (1,)))
        self.assertEqual(Finder(1, [(0, 0)]).machine(), (1, ((1,), (2,), (2,)), (2,)))

    def test_a_beginning_that_ends_with_a_word_is_final(self):
        # (0, 1) ends with (1,).
        self.assertEqual(Finder(2, [(0, 1, 0), (1,)]).machine()[2], (2, 3, 4))
        self.assertEqual(Finder(2, [(0, 1, 0), (1,)]).suffixes(), [None, 0, 4, 1, 0])

    def test_drawn_words(self):
        for letters, words in sought():
            with self.subTest(letters, words=words):
                finder = Finder(letters, words)
                self.assertEqual(finder.machine(), tried_machine(letters, words))
                rooms = beginnings(words)
                suffixes = [None] + [longest_end(rooms, one[1:]) for one in rooms[1:]]
                self.assertEqual(finder.suffixes(), suffixes)

    def test_it_never_breaks_and_is_good_just_behind_words(self):
        chance = random.Random(172)
        for letters, words in sought():
            machine = Finder(letters, words).machine()
            self.assertNotIn(None, [goal for row in machine[1] for goal in row])
            self.assertEqual(machine[2], tuple(sorted(set(machine[2]))))
            for _ in range(20):
                text = [chance.randrange(letters) for _ in range(chance.randint(0, 12))]
                text += chance.choice([[], list(chance.choice(words))])
                ends = any(tuple(text[-len(word):]) == word for word in words)
                rooms, told = run(machine, text)
                self.assertEqual(told, "good" if ends else "bad")
                self.assertEqual(rooms[-1], longest_end(beginnings(words), text))

    def test_kinds(self):
        finder = Finder(1, [(0,)])
        self.assertEqual([type(finder.machine()), type(finder.suffixes())], [tuple, list])
        self.assertEqual([type(part) for part in finder.machine()], [int, tuple, tuple])
        self.assertEqual({type(row) for row in finder.machine()[1]}, {tuple})


class TestSteps(unittest.TestCase):
    def test_none_where_each_letter_goes_on(self):
        self.assertEqual(Finder(1, [(0,) * 12]).many_steps([0] * 12), 0)
        self.assertEqual(Finder(26, words_of("he", "she", "his", "hers")).many_steps(in_letters("hers")), 0)

    def test_none_in_room_0(self):
        self.assertEqual(Finder(2, [(0, 0)]).many_steps([1, 1, 1]), 0)

    def test_one_at_a_time(self):
        finder = Finder(26, words_of("he", "she", "his", "hers"))
        # she to he behind the r; hers to s behind the h.
        self.assertEqual(finder.many_steps(in_letters("sher")), 1)
        self.assertEqual(finder.many_steps(in_letters("hersh")), 1)
        # her to nothing.
        self.assertEqual(finder.many_steps(in_letters("herx")), 1)
        # hers to s to nothing.
        self.assertEqual(finder.many_steps(in_letters("hersx")), 2)

    def test_down_a_whole_word(self):
        finder = Finder(2, [(0,) * 12])
        self.assertEqual(finder.many_steps([0] * 12 + [1]), 12)
        self.assertEqual(finder.many_steps([0] * 13), 1)
        self.assertEqual(finder.many_steps([0] * 200), 188)
        self.assertEqual(finder.many_steps(([0] * 12 + [1]) * 15), 180)

    def test_it_stops_where_the_letter_goes_on(self):
        # From (0, 0, 0) by 1: to (0, 0), and on to (0, 0, 1).
        finder = Finder(2, [(0, 0, 0), (0, 0, 1)])
        self.assertEqual(finder.many_steps([0, 0, 0, 1]), 1)


class TestRefused(unittest.TestCase):
    def number_of(self, letters, words):
        return refused(BadList, "number", Finder, letters, words)

    def test_other_letters(self):
        for letters in NO_LETTER_COUNTS:
            for words in ([(0,)], [(0,), None], [(0,)] * 13, [], None):
                with self.subTest(letters, words=words):
                    self.assertEqual(self.number_of(letters, words), 0)

    def test_letters_that_are_let_by(self):
        for letters in (1, 2, 29, 30):
            self.assertEqual(Finder(letters, [(letters - 1,)]).machine()[0], letters)
            self.assertEqual(self.number_of(letters, [(0,), (letters,)]), 1)

    def test_no_list(self):
        for words in (None, 0, True, "01", (), ((0,),), []):
            with self.subTest(words):
                self.assertEqual(self.number_of(3, words), 0)

    def test_no_word_at_the_first_a_middle_and_the_last_place(self):
        for wrong in NO_WORDS:
            for number in (0, 5, 11):
                words = list(TWELVE)
                words[number] = wrong
                with self.subTest(wrong, number=number):
                    self.assertEqual(self.number_of(3, words), number)

    def test_words_of_one_and_twelve_letters(self):
        self.assertEqual(len(Finder(1, [(0,), (0,) * 12]).suffixes()), 13)
        self.assertEqual(self.number_of(1, [(0,), (0,) * 13]), 1)

    def test_a_word_told_twice(self):
        self.assertEqual(self.number_of(3, [(0, 1), (0, 1)]), 1)
        for first in (0, 5):
            for second in (6, 11):
                words = list(TWELVE)
                words[second] = words[first]
                self.assertEqual(self.number_of(3, words), second)
        self.assertEqual(self.number_of(3, [(0,), (1,), (0,), (1,), None]), 2)

    def test_a_thirteenth(self):
        for last in ((0, 2), (0,), None, (9,)):
            self.assertEqual(self.number_of(3, TWELVE + [last]), 12)
            self.assertEqual(self.number_of(3, TWELVE + [last, last]), 12)
        self.assertEqual(len(Finder(3, TWELVE).suffixes()), len(beginnings(TWELVE)))

    def test_an_earlier_one_than_a_thirteenth(self):
        for number in (0, 5, 11):
            words = TWELVE + [(0, 2)]
            words[number] = (0, 3)
            self.assertEqual(self.number_of(3, words), number)
        self.assertEqual(self.number_of(3, [(0,)] * 13), 1)

    def test_too_many_beginnings(self):
        three = [(0,) * 12, (1,) * 12, (2,) * 12]
        self.assertEqual(len(Finder(4, [*three, (3,) * 3]).suffixes()), 40)
        self.assertEqual(self.number_of(4, [*three, (3,) * 4]), 4)
        self.assertEqual(self.number_of(4, [*three, (3,) * 12]), 4)
        self.assertEqual(self.number_of(4, [*three, (3,), (0, 1), (1, 0), (2, 0), (3, 0), (3, 1), (3, 2)]), 10)
        self.assertEqual(len(Finder(4, [*three, (3,), (0, 1), (1, 0)]).suffixes()), 40)

    def test_a_word_ahead_of_too_many_beginnings(self):
        many = [(0,) * 12, (1,) * 12, (2,) * 12, (3,) * 12]
        self.assertEqual(self.number_of(4, [*many, None]), 4)
        self.assertEqual(self.number_of(4, [*many, (0, 0), (0, 0), (4,)]), 5)
        self.assertEqual(self.number_of(4, [*many, *TWELVE]), 12)

    def test_texts(self):
        finder = Finder(3, [(0, 1), (2,)])
        for call in (finder.found, finder.many_steps):
            for text, place in (
                (None, 0), ((0, 1), 0), ("01", 0), (0, 0), ([3], 0), ([0, -1], 1), ([0, 1, True], 2), ([0, None, 7], 1),
                ([0] * 201, 200), ([0] * 200 + [9], 200), ([0] * 199 + [9, 0], 199), ([[0]], 0),
            ):
                with self.subTest(call.__name__, text=text):
                    self.assertEqual(refused(BadWord, "place", call, text), place)
            call([0] * 200)


class TestKept(unittest.TestCase):
    def told(self, finder):
        return [finder.found([0, 1, 1, 0]), finder.machine(), finder.suffixes(), finder.many_steps([0, 1, 1, 0])]

    def test_the_list_may_be_changed_later(self):
        words = [(0, 1), (1,)]
        finder = Finder(2, words)
        self.assertEqual(words, [(0, 1), (1,)])
        before = self.told(finder)
        words.append((0,))
        self.assertEqual(self.told(finder), before)
        words[0] = (0, 0, 0)
        self.assertEqual(self.told(finder), before)
        words.clear()
        self.assertEqual(self.told(finder), before)
        self.assertEqual(before[0], [(2, 0), (2, 1), (3, 1)])

    def test_told_lists_may_be_changed(self):
        finder = Finder(2, [(0, 1), (1,)])
        before = self.told(Finder(2, [(0, 1), (1,)]))
        for _ in range(3):
            told = self.told(finder)
            self.assertEqual(told, before)
            told[0].clear()
            told[2][1] = 7
            told[2].append(9)

    def test_texts_are_not_changed_or_kept(self):
        finder = Finder(2, [(0, 1), (1,)])
        text = [0, 1]
        told = finder.found(text)
        finder.many_steps(text)
        self.assertEqual(text, [0, 1])
        text.append(1)
        self.assertEqual(told, [(2, 0), (2, 1)])
        self.assertEqual(finder.found([]), [])

    def test_what_is_refused_changes_nothing(self):
        finder = Finder(2, [(0, 1), (1,)])
        before = self.told(finder)
        refused(BadWord, "place", finder.found, [0, 1, 9])
        refused(BadWord, "place", finder.many_steps, [0, 1, 9])
        self.assertEqual(self.told(finder), before)
        words = [(0,), None]
        self.assertEqual(refused(BadList, "number", Finder, 2, words), 1)
        self.assertEqual(words, [(0,), None])

    def test_two_finders_do_not_touch_each_other(self):
        one, other = Finder(2, [(0, 1), (1,)]), Finder(2, [(0,)])
        before = self.told(one), self.told(other)
        one.found([1] * 9)
        other.many_steps([0] * 9)
        self.assertEqual((self.told(one), self.told(other)), before)


if __name__ == "__main__":
    unittest.main()
