"""Points 23 and 24: rooms within rooms, and letters of words."""

import unittest
from itertools import combinations, product

from kaleidorooms import errors
from kaleidorooms.plays import able, behind, first_play
from kaleidorooms.shortwords import all_short
from kaleidorooms.within import are_letters, followed, greatest_by, is_within, letters_for
from tests import arguments
from tests.helpers import (
    BENT, CHAIN, ENDLESS_HALLS, FULL, LAMP, NAMED, all_plays, dice_of, expect_error, hall_of, led_plainly,
    pressed_plainly, rooms_by_letters, rooms_to, try_wrongs, within_plainly, words_to_rooms,
)

SMALL = [LAMP, CHAIN, NAMED["b", 2], NAMED["g", 2], hall_of(2, (0, 1, 1, 3)), hall_of(3, (0, 2, 2, 1)), NAMED["a", 3]]
SMALL += [hall_of(2), BENT]


class Within(unittest.TestCase):
    def test_against_all_letters(self):
        for hall in SMALL:
            known = within_plainly(hall)
            for room, other in product(known, repeat=2):
                self.assertIs(room in known[other], is_within(hall, room, other), (room, other))

    def test_by_all_shortest_words(self):
        hall = NAMED["a", 3]
        for room, inside in within_plainly(hall).items():
            for word in all_short(hall, room):
                self.assertEqual(inside, rooms_by_letters(hall, word))

    def test_some_rooms_of_big_halls(self):
        dice = dice_of(23)
        for name in (("d", 4), ("f", 4), ("b", 4), ("e", 8)):
            hall = NAMED[name]
            for _ in range(5):
                word = tuple(dice.choices(range(len(hall)), k=14))
                other = greatest_by(hall, word)
                inside = rooms_by_letters(hall, word)
                for room in list(inside)[:40]:
                    self.assertTrue(is_within(hall, room, other))
                for _ in range(20):
                    room = led_plainly(hall, (1,) * len(hall), dice.choices(range(len(hall)), k=8))
                    self.assertEqual(room in inside, is_within(hall, room, other))
            first, last = (1,) * len(hall), (-1,) * len(hall)
            self.assertTrue(is_within(hall, first, other) and is_within(hall, other, last))
            self.assertFalse(is_within(hall, last, other) or is_within(hall, other, first))
            self.assertTrue(is_within(hall, first, first) and is_within(hall, last, last))

    def test_followed(self):
        for hall in (CHAIN, NAMED["b", 2], NAMED["a", 3]):
            known = rooms_to(hall, 100)
            inside = within_plainly(hall)
            first = (1,) * len(hall)
            dice = dice_of(24)
            for other in known:
                plays = all_plays(hall, other, 100)
                for play, left in dice.sample(plays, min(12, len(plays))):
                    for room in known:
                        at = room
                        for lamp in play:
                            beyond = pressed_plainly(hall, at, lamp)
                            at = beyond if known[beyond] < known[at] else at
                        self.assertEqual(at, followed(hall, room, other, play))
                        if left == first:
                            self.assertEqual(room in inside[other], at == first)

    def test_followed_by_hand(self):
        self.assertEqual((1, 1), followed(CHAIN, (-1, 2), (-2, 1), (0, 1)))
        self.assertEqual((2, -1), followed(CHAIN, (2, -1), (-2, 1), (0,)))
        self.assertEqual((-1, 2), followed(CHAIN, (-1, 2), (1, 1), ()))

    def test_letters_against_all_places(self):
        dice = dice_of(25)
        for hall in SMALL:
            words = words_to_rooms(hall)
            for size in range(7):
                for word in {tuple(dice.choices(range(len(hall)), k=size)) for _ in range(4)}:
                    self.check_letters(hall, word, words)

    def check_letters(self, hall, word, words):
        first = (1,) * len(hall)
        listed = {}
        for many in range(len(word) + 1):
            for places in combinations(range(len(word)), many):
                room = led_plainly(hall, first, [word[place] for place in places])
                if len(words[room]) == many:
                    listed.setdefault(room, []).append(places)
        for room, shortest in words.items():
            told = letters_for(hall, word, room)
            self.assertEqual(min(listed[room]) if room in listed else None, told)
            for many in range(len(word) + 1):
                for places in combinations(range(len(word)), many):
                    self.assertIs(places in listed.get(room, []), are_letters(hall, word, room, places))
        greatest = greatest_by(hall, word)
        self.assertEqual(set(listed), within_plainly(hall)[greatest])

    def test_greatest_by(self):
        known = {hall.pushes: rooms_to(hall, 100) for hall in SMALL}
        dice = dice_of(26)
        for hall in SMALL:
            for _ in range(30):
                word = tuple(dice.choices(range(len(hall)), k=dice.randint(0, 12)))
                at = (1,) * len(hall)
                for lamp in word:
                    beyond = pressed_plainly(hall, at, lamp)
                    at = beyond if known[hall.pushes][beyond] > known[hall.pushes][at] else at
                self.assertEqual(at, greatest_by(hall, word))

    def test_words_of_60_letters(self):
        hall = NAMED["e", 8]
        dice = dice_of(27)
        for _ in range(4):
            word = tuple(dice.choices(range(8), k=60))
            greatest = greatest_by(hall, word)
            places = letters_for(hall, word, greatest)
            self.assertEqual(len(first_play(hall, greatest)), len(places))
            self.assertTrue(are_letters(hall, word, greatest, places))
            self.assertIsNone(letters_for(hall, word, (-1,) * 8))
            self.assertFalse(are_letters(hall, word, (-1,) * 8, tuple(range(60))))
            self.assertEqual((), letters_for(hall, word, (1,) * 8))
        word = (0, 1) * 30
        self.assertEqual((0, 1, 2), letters_for(CHAIN, word, (-1, -1)))
        self.assertTrue(are_letters(CHAIN, word, (-1, -1), (57, 58, 59)))
        self.assertTrue(are_letters(CHAIN, word, (-1, -1), (0, 29, 58)))

    def test_empty_words(self):
        self.assertEqual((), letters_for(CHAIN, (), (1, 1)))
        self.assertIsNone(letters_for(CHAIN, (), (-1, 2)))
        self.assertTrue(are_letters(CHAIN, (), (1, 1), ()))
        self.assertEqual((1, 1), greatest_by(CHAIN, ()))

    def test_are_letters_of_any_value(self):
        word, room = (0, 1, 0), (-2, 1)
        values = [[1, 2], (1, 1), (2, 1), (1, True), (True, 2), (1,), (0, 1, 2), (1, 3), (-2, -1), (-1, 2), "12"]
        values += [(1, None), (1, "2"), ((1, 2),), {1: 2}, range(1, 3), (1, 2, None), (10 ** 30, 2), (0, 2), (0, 1)]
        for value in arguments.ODD_VALUES + values:
            self.assertIs(False, are_letters(CHAIN, word, room, value), value)
        self.assertIs(True, are_letters(CHAIN, word, room, (1, 2)))
        self.assertIs(True, are_letters(CHAIN, word, (1, -2), (0, 1)))
        self.assertIs(True, are_letters(CHAIN, word, (-1, -1), (0, 1, 2)))
        # Places that lead to the room, but more than the room's distance, are none.
        self.assertIs(False, are_letters(CHAIN, (1, 1, 0), (-1, 2), (0, 1, 2)))

    def test_wrong_arguments(self):
        rooms = arguments.room(CHAIN, (0, 1), (2, 1), (-10 ** 30, 1))
        words = arguments.word(CHAIN, 0, 1)
        other = (-2, 1)
        play = (0,)
        self.assertEqual((0,), able(CHAIN, other))
        self.assertEqual((2, -1), behind(CHAIN, other, play))
        not_ending = arguments.NOT_ENDING
        try_wrongs(self, is_within, (CHAIN, (-1, 2), other), [not_ending, rooms, rooms])
        plays = arguments.play(CHAIN, other, play)
        try_wrongs(self, followed, (CHAIN, (-1, 2), other, play), [not_ending, rooms, rooms, plays])
        try_wrongs(self, letters_for, (CHAIN, (0, 1), other), [not_ending, words, rooms])
        try_wrongs(self, are_letters, (CHAIN, (0, 1), other, None), [not_ending, words, rooms, []])
        try_wrongs(self, greatest_by, (CHAIN, (0, 1)), [not_ending, words])
        # A play of the room is no play of the other one.
        expect_error(self, followed, [CHAIN, (-1, 2), (2, -1), (0,)], errors.BadPlay, index=0)
        for hall in ENDLESS_HALLS + [FULL]:
            for function, more in (
                (is_within, [None, None]), (followed, [None, None, None]), (letters_for, [None, None]),
                (are_letters, [None, None, None]), (greatest_by, [None]),
            ):
                expect_error(self, function, [hall] + more, errors.NotEnding)


if __name__ == "__main__":
    unittest.main()
