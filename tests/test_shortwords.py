"""Point 13: short words counted, listed and numbered."""

import unittest

from kaleidorooms import errors
from kaleidorooms.plays import all_numbers, count_plays
from kaleidorooms.rooms import distance, first_room
from kaleidorooms.shortwords import all_short, count_short, short_at, short_place
from kaleidorooms.words import back_room, go, short_word
from tests import arguments
from tests.helpers import (
    CHAIN, FULL, NAMED, PAIR, SOME_HALLS, STEEP, Wrong, expect_error, hall_of, pressed_plainly, try_wrongs, wrongs,
)
from tests.test_words import SMALL, short_words

FLAT_STEP = hall_of(7, (0, 1, 2, 2))
THREE_PAIRS = hall_of(8, (0, 1, 2, 2), (2, 3, 2, 2), (4, 5, 2, 2))


def apart(lengths, more):
    """A word by turns of two lamps of each wing, of so many letters each, then some lamps more."""
    word = ()
    for wing, length in enumerate(lengths):
        word += ((2 * wing, 2 * wing + 1) * length)[:length]
    return word + more


class ShortWords(unittest.TestCase):
    def test_all_short_words(self):
        for hall, most in SMALL:
            for room, words in short_words(hall, most).items():
                words = sorted(words)
                self.assertEqual(words, all_short(hall, room))
                self.assertEqual(len(words), count_short(hall, room))
                self.assertEqual(words, [short_at(hall, room, number) for number in range(len(words))])
                self.assertEqual(list(range(len(words))), [short_place(hall, word) for word in words])
                expect_error(self, short_at, [hall, room, len(words)], errors.BadIndex)

    def test_first_room(self):
        for hall in SOME_HALLS + [FULL]:
            room = first_room(hall)
            self.assertEqual((1, [()]), (count_short(hall, room), all_short(hall, room)))
            self.assertEqual(((), 0), (short_at(hall, room, 0), short_place(hall, ())))

    def test_many_short_words(self):
        for name, many in ((("a", 4), 768), (("b", 3), 42), (("a", 5), 292864), (("d", 4), 2316), (("f", 4), 2144892)):
            hall = NAMED[name]
            room = (-1,) * len(hall)
            self.assertEqual(many, count_short(hall, room))
            self.assertEqual(many, count_plays(hall, room))
            self.assertEqual(short_word(hall, room), short_at(hall, room, 0))
            for number in (0, 1, many // 3, many // 2, many - 2, many - 1):
                word = short_at(hall, room, number)
                self.assertEqual((room, distance(hall, room)), (go(hall, word), len(word)))
                self.assertEqual(number, short_place(hall, word))
            for number in (many, -1, 10 ** 30):
                expect_error(self, short_at, [hall, room, number], errors.BadIndex)
            if many > 2000:
                expect_error(self, all_short, [hall, room], errors.TooMany, most=2000)

    def test_order_of_numbers(self):
        hall = NAMED["d", 4]
        words = [short_at(hall, (-1,) * 4, number) for number in range(0, 2316, 77)]
        self.assertEqual(sorted(words), words)

    def test_edge_of_2000_numbers(self):
        # 5 * 5 * 20 * 2 * 2 unlike numbers, and 3 * 23 * 29 of them.
        just, over = apart((4, 4, 19), (6, 7)), apart((2, 22, 28), ())
        room = go(THREE_PAIRS, just)
        self.assertEqual(2000, len(all_numbers(THREE_PAIRS, room)))
        many = count_plays(THREE_PAIRS, room)
        self.assertEqual(many, count_short(THREE_PAIRS, room))
        expect_error(self, all_short, [THREE_PAIRS, room], errors.TooMany, most=2000)
        last = short_at(THREE_PAIRS, room, many - 1)
        self.assertEqual((room, many - 1), (go(THREE_PAIRS, last), short_place(THREE_PAIRS, last)))
        self.assertEqual(just, short_at(THREE_PAIRS, room, 0))
        room = go(THREE_PAIRS, over)
        for function, more in ((count_short, []), (all_short, []), (short_at, [0]), (short_at, [None])):
            expect_error(self, function, [THREE_PAIRS, room] + more, errors.TooMany, most=2000)
        expect_error(self, short_place, [THREE_PAIRS, over], errors.TooMany, most=2000)
        for function in (count_plays, all_numbers):
            expect_error(self, function, [THREE_PAIRS, room], errors.TooMany, most=2000)

    def test_edge_of_2000_words(self):
        # The letters of two wings, each in its order, can be mixed in 1716 ways, and in 2002.
        room = go(THREE_PAIRS, apart((6, 7), ()))
        self.assertEqual(1716, len(all_short(THREE_PAIRS, room)))
        room = go(THREE_PAIRS, apart((5, 9), ()))
        self.assertEqual(2002, count_short(THREE_PAIRS, room))
        expect_error(self, all_short, [THREE_PAIRS, room], errors.TooMany, most=2000)
        self.assertEqual(2001, short_place(THREE_PAIRS, short_at(THREE_PAIRS, room, 2001)))

    def test_big_halls(self):
        room = (-1,) * 5
        self.assertLess(2000, count_short(NAMED["d", 5], room))
        expect_error(self, all_short, [NAMED["d", 5], room], errors.TooMany, most=2000)
        room = (-1,) * 6
        for function in (count_short, all_short):
            expect_error(self, function, [NAMED["d", 6], room], errors.TooMany, most=2000)
        # Too many is told ahead of a number that is none.
        for number in (0, -1, None, "0", True, 10 ** 30):
            expect_error(self, short_at, [NAMED["d", 6], room, number], errors.TooMany, most=2000)
        expect_error(self, short_place, [NAMED["d", 6], short_word(NAMED["d", 6], room)], errors.TooMany, most=2000)

    def test_numbers_are_counted_not_words(self):
        # Lamps that do not push each other: 55 numbers times 32, and many more words.
        word = (0, 1) * 27 + (0, 2, 3, 4, 5)
        room = go(FLAT_STEP, word)
        self.assertLess(2000, count_short(FLAT_STEP, room))
        expect_error(self, all_short, [FLAT_STEP, room], errors.TooMany, most=2000)
        self.assertEqual(word, short_at(FLAT_STEP, room, 0))
        self.assertEqual(0, short_place(FLAT_STEP, word))

    def test_too_long(self):
        word = (0, 1) * 30
        room = go(PAIR, word)
        self.assertEqual((1, [word]), (count_short(PAIR, room), all_short(PAIR, room)))
        self.assertEqual((word, 0), (short_at(PAIR, room, 0), short_place(PAIR, word)))
        beyond = pressed_plainly(PAIR, room, 0)
        for function, more in ((count_short, []), (all_short, []), (short_at, [0]), (short_at, [None])):
            expect_error(self, function, [PAIR, beyond] + more, errors.TooLong, most=60)
            expect_error(self, function, [STEEP, (-1, 1)] + more, errors.TooLong, most=5000)
            # Too long is told ahead of too many.
            expect_error(self, function, [NAMED["e", 8], (-1,) * 8] + more, errors.TooLong, most=60)

    def test_returned_lists_are_new(self):
        all_short(CHAIN, (-1, -1)).clear()
        self.assertEqual([(0, 1, 0), (1, 0, 1)], all_short(CHAIN, (-1, -1)))

    def test_short_words_to_the_back_room(self):
        for name in (("a", 3), ("b", 3), ("g", 2)):
            room = go(NAMED[name], (1, 0, 1, 0, 1)[:4])
            back = back_room(NAMED[name], room)
            self.assertEqual(sorted(word[::-1] for word in all_short(NAMED[name], room)), all_short(NAMED[name], back))

    def test_wrong_arguments(self):
        rooms = arguments.room(CHAIN, (0, 1), (2, 1))
        for function in (count_short, all_short):
            try_wrongs(self, function, (CHAIN, (-1, 2)), [arguments.HALL, rooms])
        numbers = wrongs(errors.BadIndex, [None, True, False, "0", "", (), (0,), [0], {}, -1, 2, 10 ** 30])
        try_wrongs(self, short_at, (CHAIN, (-1, -1), 1), [arguments.HALL, rooms, numbers])
        words = arguments.word(CHAIN, 0, 1) + [Wrong((0, 1, 0, 1), errors.NotShort), Wrong((0, 0), errors.NotShort)]
        try_wrongs(self, short_place, (CHAIN, (0, 1)), [arguments.HALL, words])


if __name__ == "__main__":
    unittest.main()
