"""Point 15: moves and ways."""

import unittest
from itertools import product

from kaleidorooms import errors
from kaleidorooms.moves import after_move, moves_between, shows_moves
from kaleidorooms.words import go
from tests import arguments
from tests.helpers import (
    BENT, CHAIN, FULL, LAMP, NAMED, PAIR, RING, SOME_HALLS, STEEP, WILD_RING, Wrong, dice_of, expect_error, hall_of,
    random_hall, try_wrongs, wrongs,
)
from tests.test_words import all_words

BONDS = {0: 2, 1: 3, 2: 4, 3: 6}
NO_MOVES = arguments.ODD_VALUES + [
    ("short",), ("short", 0, 0), ["short", 0], ("shorter", 0), ("", 0), ("long", 0), ("long", 0, 0, 0), ["long", 0, 0],
    ("turn", 0, 0), ("turn", 0, 0, 1, 0), ["turn", 0, 0, 1], (0, "short"), (None, 0), "short", "turn", ("short", None),
    ("short", True), ("short", False), ("short", "0"), ("short", (0,)), ("short", [0]), ("short", -1), ("short", -2),
    ("short", 10 ** 30), ("long", None, 0), ("long", True, 0), ("long", 0, True), ("long", 0, None), ("long", -1, 0),
    ("long", 0, -1), ("long", 0, 9), ("long", 10 ** 30, 0), ("long", "0", 0), ("long", 0, "0"), ("turn", None, 0, 1),
    ("turn", False, 0, 1), ("turn", 0, False, 1), ("turn", 0, 0, True), ("turn", 0, None, 1), ("turn", 0, 0, 9),
    ("turn", 0, 0, 0), ("turn", -1, 0, 1), ("turn", -3, 0, 1), ("turn", 0, -1, 1), ("turn", 10 ** 30, 0, 1),
    ("turn", 0, [0], 1), ("turn", 0, 0, (1,)), (("short", 0),), [("short", 0)], (["short"], 0), ({}, 0), {"short": 0},
]


def moves_plainly(hall, word):
    """All moves that can be done to a word, with the words behind them."""
    found = {}
    many = len(word)
    for place in range(many - 1):
        if word[place] == word[place + 1]:
            found["short", place] = word[:place] + word[place + 2:]
    for place, lamp in product(range(many + 1), range(len(hall))):
        if many <= 58:
            found["long", place, lamp] = word[:place] + (lamp, lamp) + word[place:]
    for one, other in product(range(len(hall)), repeat=2):
        size = BONDS.get(hall.pushes[one][other] * hall.pushes[other][one])
        if one == other or size is None:
            continue
        before = tuple([(one, other)[at % 2] for at in range(size)])
        after = tuple([(other, one)[at % 2] for at in range(size)])
        for place in range(many - size + 1):
            if word[place:place + size] == before:
                found["turn", place, one, other] = word[:place] + after + word[place + size:]
    return found


class Moves(unittest.TestCase):
    def test_all_moves(self):
        for hall in (CHAIN, BENT, PAIR, NAMED["g", 2], hall_of(3, (0, 1, 1, 1)), WILD_RING):
            for word in list(all_words(hall, 5)) + [(0, 1) * 3, (0,) + (1, 0) * 3]:
                told = moves_plainly(hall, word)
                places, lamps = range(-1, len(word) + 2), range(-1, len(hall) + 1)
                tried = [("short", place) for place in places] + list(product(["long"], places, lamps))
                if len(word) < 4 or len(word) > 5:
                    tried += list(product(["turn"], places, lamps, lamps))
                else:
                    tried += list(product(["turn"], [0], range(len(hall)), range(len(hall))))
                for move in tried:
                    if move in told:
                        self.assertEqual(told[move], after_move(hall, word, move))
                        self.assertTrue(shows_moves(hall, word, told[move], [move]))
                    else:
                        expect_error(self, after_move, [hall, word, move], errors.BadMove)

    def test_bonds_of_turns(self):
        hall = hall_of(5, (0, 1, 1, 1), (1, 2, 2, 1), (2, 3, 1, 3), (3, 4, 2, 2))
        self.assertEqual((1, 0, 1, 4), after_move(hall, (0, 1, 0, 4), ("turn", 0, 0, 1)))
        self.assertEqual((4, 2, 1, 2, 1), after_move(hall, (4, 1, 2, 1, 2), ("turn", 1, 1, 2)))
        self.assertEqual((3, 2, 3, 2, 3, 2), after_move(hall, (2, 3, 2, 3, 2, 3), ("turn", 0, 2, 3)))
        self.assertEqual((0, 4), after_move(hall, (4, 0), ("turn", 0, 4, 0)))
        expect_error(self, after_move, [hall, (3, 4) * 30, ("turn", 0, 3, 4)], errors.BadMove)

    def test_at_most_sixty_letters(self):
        self.assertEqual((0, 1) * 29 + (1, 1), after_move(CHAIN, (0, 1) * 29, ("long", 58, 1)))
        expect_error(self, after_move, [CHAIN, (0, 1) * 29 + (0,), ("long", 0, 0)], errors.BadMove)
        expect_error(self, after_move, [CHAIN, (0, 1) * 30, ("long", 60, 0)], errors.BadMove)
        self.assertEqual((0, 1) * 28 + (0, 1, 0, 0), after_move(CHAIN, (0, 1) * 28 + (1, 0, 1, 0), ("turn", 56, 1, 0)))
        long_word = (0, 0) * 30
        self.assertEqual(long_word[2:], after_move(CHAIN, long_word, ("short", 58)))
        way = [("short", 0), ("long", 0, 1)]
        self.assertTrue(shows_moves(CHAIN, long_word, (1, 1) + long_word[2:], way))
        self.assertFalse(shows_moves(CHAIN, long_word, (1, 1) + long_word[2:], way[::-1]))

    def test_after_move_changes_only_its_letters(self):
        self.assertEqual((2, 0, 2), after_move(BENT, (2, 1, 1, 0, 2), ("short", 1)))
        self.assertEqual((2, 0, 1, 1), after_move(BENT, (2, 0), ("long", 2, 1)))
        self.assertEqual((0, 0), after_move(LAMP, (), ("long", 0, 0)))
        self.assertEqual((), after_move(LAMP, (0, 0), ("short", 0)))


class Ways(unittest.TestCase):
    def check(self, hall, one, other):
        way = moves_between(hall, one, other)
        if go(hall, one) != go(hall, other):
            self.assertIsNone(way)
            return
        self.assertIsInstance(way, list)
        word = one
        for move in way:
            word = after_move(hall, word, move)
            self.assertLessEqual(len(word), 60)
        self.assertEqual(other, word)
        self.assertTrue(shows_moves(hall, one, other, way))
        self.assertTrue(shows_moves(hall, one, other, tuple(way)))

    def test_all_words(self):
        for hall, most in ((LAMP, 5), (CHAIN, 5), (PAIR, 5), (BENT, 3), (hall_of(2, (0, 1, 1, 2)), 6)):
            words = list(all_words(hall, most))
            for one in words:
                for other in words[::2]:
                    self.check(hall, one, other)

    def test_words_to_one_room(self):
        for hall, most in ((BENT, 6), (RING, 6), (NAMED["a", 4], 5), (WILD_RING, 6)):
            by_room = {}
            for word in all_words(hall, most):
                by_room.setdefault(go(hall, word), []).append(word)
            for words in by_room.values():
                self.check(hall, words[0], words[-1])
                self.check(hall, words[-1], words[len(words) // 2])

    def test_long_words(self):
        dice = dice_of(16)
        halls = SOME_HALLS + [FULL, NAMED["e", 8], NAMED["d", 8], NAMED["b", 8], NAMED["a", 8], NAMED["f", 4]]
        for hall in halls + [random_hall(dice, 8, 2, 0.4) for _ in range(5)]:
            for many in (12, 30, 59, 60):
                one = tuple(dice.choices(range(len(hall)), k=many))
                other = one
                for _ in range(200):
                    other = dice.choice(list(moves_plainly(hall, other).values()))
                self.check(hall, one, other)
                self.check(hall, other, one)

    def test_short_words_of_far_rooms(self):
        # All lamps by turns, in one order and in another one, to the farthest room.
        for name, rounds in ((("d", 8), 7), (("a", 3), 2), (("b", 7), 7), (("e", 6), 6), (("f", 4), 6)):
            hall = NAMED[name]
            lamps = tuple(range(len(hall)))
            self.check(hall, lamps * rounds, lamps[::-1] * rounds)

    def test_unlike_rooms(self):
        self.assertIsNone(moves_between(CHAIN, (0,), (1,)))
        self.assertIsNone(moves_between(PAIR, (0, 1) * 30, (1, 0) * 30))
        self.assertIsNone(moves_between(STEEP, (), (0, 1) * 30))
        self.assertEqual([], moves_between(CHAIN, (), ()))
        self.assertEqual([], moves_between(PAIR, (0, 1) * 30, (0, 1) * 30))

    def test_returned_lists_are_new(self):
        way = moves_between(CHAIN, (0, 1, 0), (1, 0, 1))
        way.append(None)
        self.check(CHAIN, (0, 1, 0), (1, 0, 1))

    def test_shows_moves(self):
        one, other = (0, 1, 0, 1), (1, 0)
        self.assertTrue(shows_moves(CHAIN, one, other, [("turn", 0, 0, 1), ("short", 2)]))
        self.assertTrue(shows_moves(CHAIN, one, other, (("turn", 1, 1, 0), ("short", 0))))
        self.assertTrue(shows_moves(CHAIN, one, one, []))
        self.assertTrue(shows_moves(CHAIN, one, one, ()))
        self.assertFalse(shows_moves(CHAIN, one, other, []))
        self.assertFalse(shows_moves(CHAIN, one, other, [("turn", 0, 0, 1)]))
        self.assertFalse(shows_moves(CHAIN, one, other, [("turn", 0, 0, 1), ("short", 2), ("short", 0)]))
        self.assertFalse(shows_moves(CHAIN, (0,), (1,), [("long", 0, 1), ("short", 0)]))
        self.assertTrue(shows_moves(CHAIN, (0,), (0,), [("long", 0, 1), ("short", 0)] * 3000))

    def test_shows_moves_of_any_value(self):
        for value in arguments.ODD_VALUES + ["short", {("short", 0): 1}, ("short", 0), ("turn", 0, 0, 1)]:
            expected = value == () or value == []
            self.assertIs(expected, shows_moves(CHAIN, (0, 1), (0, 1), value), value)
            self.assertIs(False, shows_moves(CHAIN, (0, 1), (1, 0), value), value)
        for move in NO_MOVES:
            self.assertIs(False, shows_moves(CHAIN, (0, 1, 0), (0, 1, 0), [move]), move)
            self.assertIs(False, shows_moves(CHAIN, (0, 0), (), [("short", 0), move]), move)

    def test_wrong_arguments(self):
        words = arguments.word(CHAIN, 0, 1)
        for word in ((0, 1, 0), (1, 1), ()):
            for move in NO_MOVES:
                expect_error(self, after_move, [CHAIN, word, move], errors.BadMove)
        moves = wrongs(errors.BadMove, NO_MOVES) + [Wrong(("short", 1), errors.BadMove)]
        try_wrongs(self, after_move, (CHAIN, (0, 0, 1), ("short", 0)), [arguments.HALL, words, moves])
        try_wrongs(self, moves_between, (CHAIN, (0, 1), (1,)), [arguments.HALL, words, words])
        try_wrongs(self, shows_moves, (CHAIN, (0, 1), (1,), None), [arguments.HALL, words, words, []])


if __name__ == "__main__":
    unittest.main()
