"""Points 11, 12, 14 and 16: words."""

import unittest
from itertools import product

from kaleidorooms import errors
from kaleidorooms.halls import bond
from kaleidorooms.plays import all_numbers, behind, end, presses
from kaleidorooms.rooms import distance, first_room, walls_home
from kaleidorooms.words import back_room, dropped, first_letters, go, is_short, same_room, short_word
from tests import arguments
from tests.helpers import (
    BENT, CHAIN, ENDING_HALLS, FULL, LAMP, LEAN, NAMED, PAIR, RING, SOME_HALLS, STEEP, WILD_RING, dice_of, expect_error,
    hall_of, led_plainly, pressed_plainly, rooms_to, try_wrongs,
)

SMALL = [(LAMP, 4), (CHAIN, 7), (BENT, 5), (PAIR, 8), (RING, 6), (STEEP, 7), (WILD_RING, 5), (NAMED["g", 2], 8)]


def all_words(hall, most):
    """All words of at most so many letters."""
    for many in range(most + 1):
        yield from product(range(len(hall)), repeat=many)


def short_words(hall, most):
    """For each room, the short words of at most so many letters that lead to it, by trying all words."""
    found = {}
    for word in all_words(hall, most):
        room = led_plainly(hall, (1,) * len(hall), word)
        listed = found.setdefault(room, [])
        if not listed or len(listed[0]) == len(word):
            listed.append(word)
    return found


def long_short_word(hall, dice, many):
    """A short word of so many letters, by dice."""
    room, word = first_room(hall), ()
    while len(word) < many:
        lamp = dice.choice([lamp for lamp in range(len(hall)) if room[lamp] > 0])
        room, word = pressed_plainly(hall, room, lamp), word + (lamp,)
    return word


class Words(unittest.TestCase):
    def test_all_words(self):
        for hall, most in SMALL:
            known = rooms_to(hall, most)
            for word in all_words(hall, most):
                room = led_plainly(hall, first_room(hall), word)
                self.assertEqual(room, go(hall, word))
                self.assertEqual(known[room] == len(word), is_short(hall, word), word)

    def test_same_room(self):
        words = list(all_words(BENT, 4))
        for hall in (BENT, RING):
            for one in words[::3]:
                for other in words[::5]:
                    self.assertEqual(go(hall, one) == go(hall, other), same_room(hall, one, other))
        self.assertTrue(same_room(CHAIN, (0, 1, 0), (1, 0, 1)))
        self.assertFalse(same_room(CHAIN, (0, 1), (1, 0)))
        self.assertTrue(same_room(CHAIN, (), (1, 1)))

    def test_short_words(self):
        for hall, most in SMALL:
            for room, words in short_words(hall, most).items():
                self.assertEqual(min(words), short_word(hall, room))
                self.assertEqual(tuple(sorted({word[0] for word in words if word})), first_letters(hall, room))
                backwards = {led_plainly(hall, first_room(hall), word[::-1]) for word in words}
                self.assertEqual({back_room(hall, room)}, backwards)

    def test_first_room(self):
        for hall in SOME_HALLS + [FULL]:
            room = first_room(hall)
            self.assertEqual(room, go(hall, ()))
            self.assertTrue(is_short(hall, ()))
            self.assertEqual(((), (), room), (short_word(hall, room), first_letters(hall, room), back_room(hall, room)))

    def test_back_room_of_any_word(self):
        dice = dice_of(12)
        for hall in SOME_HALLS:
            for _ in range(30):
                word = tuple(dice.choices(range(len(hall)), k=dice.randint(0, 60)))
                room = go(hall, word)
                self.assertEqual(go(hall, word[::-1]), back_room(hall, room))
                self.assertEqual(room, go(hall, short_word(hall, room)))
                self.assertTrue(is_short(hall, short_word(hall, room)))

    def test_sixty_letters(self):
        word = (0, 1) * 30
        for hall in (PAIR, LEAN, STEEP):
            room = go(hall, word)
            self.assertEqual(word, short_word(hall, room))
            self.assertTrue(is_short(hall, word))
            self.assertEqual((0,), first_letters(hall, room))
            self.assertEqual(go(hall, word[::-1]), back_room(hall, room))
            self.assertTrue(same_room(hall, word, word))
            beyond = pressed_plainly(hall, room, 0)
            for function in (short_word, first_letters, back_room):
                expect_error(self, function, [hall, beyond], errors.TooLong, most=60)
            for function in (go, is_short):
                expect_error(self, function, [hall, word + (0,)], errors.BadWord, index=None)
        for hall in (FULL, RING):
            word = long_short_word(hall, dice_of(13), 60)
            self.assertTrue(is_short(hall, word))
            self.assertEqual(60, len(short_word(hall, go(hall, word))))
            self.assertLessEqual(short_word(hall, go(hall, word)), word)

    def test_far_rooms(self):
        for function in (short_word, first_letters, back_room):
            expect_error(self, function, [NAMED["e", 8], (-1,) * 8], errors.TooLong, most=60)
            expect_error(self, function, [STEEP, (-1, 1)], errors.TooLong, most=5000)
        self.assertEqual(56, len(short_word(NAMED["d", 8], (-1,) * 8)))

    def test_dropped(self):
        for hall, most in SMALL:
            for words in short_words(hall, min(most, 5)).values():
                for word in words[:3]:
                    for lamp in range(len(hall)):
                        self.check_dropped(hall, word, lamp)

    def check_dropped(self, hall, word, lamp):
        wanted = led_plainly(hall, first_room(hall), word + (lamp,))
        places = [
            place for place in range(len(word))
            if led_plainly(hall, first_room(hall), word[:place] + word[place + 1:]) == wanted
        ]
        nearer = go(hall, word)[lamp] < 0
        self.assertEqual(1 if nearer else 0, len(places))
        self.assertEqual(places[0] if nearer else None, dropped(hall, word, lamp))

    def test_dropped_of_long_words(self):
        self.assertEqual(59, dropped(PAIR, (0, 1) * 30, 1))
        self.assertIsNone(dropped(PAIR, (0, 1) * 30, 0))
        for hall in (RING, NAMED["d", 8], FULL):
            word = long_short_word(hall, dice_of(14), 50)
            for lamp in range(len(hall)):
                self.check_dropped(hall, word, lamp)

    def test_not_short(self):
        expect_error(self, dropped, [CHAIN, (0, 1, 0, 1), 0], errors.NotShort)
        expect_error(self, dropped, [CHAIN, (0, 0), 0], errors.NotShort)
        expect_error(self, dropped, [CHAIN, (0, 0), None], errors.NotShort)
        expect_error(self, dropped, [CHAIN, (0, 1), 2], errors.BadLamp)

    def test_wrong_arguments(self):
        words = arguments.word(CHAIN, 0, 1)
        rooms = arguments.room(CHAIN, (0, 1), (2, 1))
        for function in (go, is_short):
            try_wrongs(self, function, (CHAIN, (0, 1)), [arguments.HALL, words])
        try_wrongs(self, same_room, (CHAIN, (0, 1), (1,)), [arguments.HALL, words, words])
        for function in (short_word, first_letters, back_room):
            try_wrongs(self, function, (CHAIN, (-1, 2)), [arguments.HALL, rooms])
        not_short = [arguments.Wrong((0, 1, 0, 1), errors.NotShort), arguments.Wrong((1, 1), errors.NotShort)]
        lists = [arguments.HALL, words + not_short, arguments.lamp(CHAIN)]
        try_wrongs(self, dropped, (CHAIN, (0, 1), 0), lists)


class WordsAndPlays(unittest.TestCase):
    """Point 16."""

    def test_short_words_are_plays_backwards(self):
        for hall, most in SMALL:
            for word in all_words(hall, min(most, 5)):
                room = go(hall, word)
                try:
                    is_play = behind(hall, room, word[::-1]) == first_room(hall)
                except errors.BadPlay:
                    is_play = False
                self.assertEqual(is_play, is_short(hall, word))

    def test_last_letters(self):
        for hall, most in SMALL:
            for room, words in short_words(hall, most).items():
                self.assertEqual(tuple(sorted({word[-1] for word in words if word})), walls_home(hall, room))

    def test_bonds_alone_tell_which_words_lead_to_one_room(self):
        pairs = [
            (hall_of(3, (0, 1, 1, 2), (1, 2, 1, 3)), hall_of(3, (0, 1, 2, 1), (1, 2, 3, 1))),
            (hall_of(3, (0, 1, 2, 2), (1, 2, 1, 1)), hall_of(3, (0, 1, 4, 3), (1, 2, 1, 1))),
            (PAIR, STEEP),
        ]
        for one, other in pairs:
            seen, also = {}, {}
            for word in all_words(one, 6):
                seen.setdefault(go(one, word), []).append(word)
                also.setdefault(go(other, word), []).append(word)
            self.assertEqual(list(seen.values()), list(also.values()))

    def test_lamps_without_a_bond(self):
        for times, back in product(range(1, 5), repeat=2):
            hall = hall_of(2, (0, 1, times, back))
            for many in range(61):
                word = ((0, 1) * 30)[:many]
                most = bond(hall, 0, 1)
                self.assertEqual(most is None or many <= most, is_short(hall, word))

    def test_distances(self):
        dice = dice_of(15)
        for hall in ENDING_HALLS + [PAIR, RING]:
            for _ in range(10):
                room = go(hall, tuple(dice.choices(range(len(hall)), k=12)))
                word = short_word(hall, room)
                self.assertEqual(len(word), distance(hall, room))
                self.assertEqual(len(word), presses(hall, room))
                self.assertEqual(first_room(hall), end(hall, room))
                self.assertEqual(len(all_numbers(hall, room)), len(all_numbers(hall, back_room(hall, room))))


if __name__ == "__main__":
    unittest.main()
