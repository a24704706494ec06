"""Point 33: the numbers to which one comes from some through walls."""

import unittest

from kaleidorooms import errors
from kaleidorooms.plays import end, presses
from kaleidorooms.quotients import count_suites
from kaleidorooms.turnedstarts import all_turned, count_numbers, number_word
from tests import arguments
from tests.helpers import (
    BENT, CHAIN, ENDLESS_HALLS, FULL, LAMP, NAMED, dice_of, expect_error, hall_of, led_plainly, pressed_plainly,
    random_numbers, try_wrongs,
)

SMALL = [LAMP, CHAIN, NAMED["b", 2], NAMED["g", 2], hall_of(2, (0, 1, 1, 3)), hall_of(3, (0, 2, 2, 1)), NAMED["a", 3]]
SMALL += [hall_of(2), BENT, NAMED["a", 4]]


def turned_plainly_from(hall, numbers):
    """For all numbers to which one comes from some through walls, the least of the shortest words that lead there."""
    words = {numbers: ()}
    level = [numbers]
    while level:
        fresh = {}
        for last in level:
            for lamp in range(len(hall)):
                beyond = pressed_plainly(hall, last, lamp)
                if beyond not in words:
                    fresh.setdefault(beyond, []).append(words[last] + (lamp,))
        words.update({beyond: min(listed) for beyond, listed in fresh.items()})
        level = list(fresh)
    return words


class TurnedStarts(unittest.TestCase):
    def test_against_all_walls(self):
        dice = dice_of(33)
        for hall in SMALL:
            starts = [(0,) * len(hall)] + [random_numbers(dice, hall, far) for far in (1, 1, 1, 2, 3, 50)]
            for start in starts:
                words = turned_plainly_from(hall, end(hall, start))
                self.assertEqual(sorted(words), all_turned(hall, start))
                self.assertEqual(len(words), count_numbers(hall, start))
                for numbers, word in list(words.items())[:40]:
                    self.assertEqual(word, number_word(hall, numbers))
                    self.assertEqual(len(words), count_numbers(hall, numbers))
                    self.assertEqual(sorted(words), all_turned(hall, numbers))

    def test_suites_by_noughts(self):
        dice = dice_of(34)
        for name in (("e", 8), ("f", 4), ("c", 7), ("d", 8)):
            hall = NAMED[name]
            for _ in range(5):
                start = random_numbers(dice, hall, 1)
                at_end = end(hall, start)
                noughts = tuple([lamp for lamp in range(len(hall)) if at_end[lamp] == 0])
                self.assertEqual(count_suites(hall, noughts), count_numbers(hall, start))
                word = number_word(hall, start)
                self.assertEqual((presses(hall, start), start), (len(word), led_plainly(hall, at_end, word)))

    def test_big_halls(self):
        hall = NAMED["e", 8]
        self.assertEqual(696729600, count_numbers(hall, (10 ** 30,) * 8))
        self.assertEqual(1, count_numbers(hall, (0,) * 8))
        self.assertEqual([(0,) * 8], all_turned(hall, (0,) * 8))
        self.assertEqual((), number_word(hall, (0,) * 8))
        self.assertEqual((), number_word(hall, (0, 5, 0, 2, 1, 0, 0, 10 ** 30)))
        roots = all_turned(hall, (0, 0, 0, 0, 0, 0, -1, 0))
        self.assertEqual((240, True), (len(roots), roots == sorted(set(roots))))
        self.assertEqual(240, count_numbers(hall, (0, 0, 0, 0, 0, 0, -1, 0)))
        # Words may be longer than 60 letters here.
        word = number_word(hall, (-10 ** 30,) * 8)
        self.assertEqual(120, len(word))
        self.assertEqual((-10 ** 30,) * 8, led_plainly(hall, (10 ** 30,) * 8, word))

    def test_too_many(self):
        hall = NAMED["e", 8]
        for numbers in ((1,) * 8, (-1,) * 8, (0, 0, 0, 0, 0, 0, 0, 1), (-10 ** 30,) * 8):
            self.assertGreater(count_numbers(hall, numbers), 2000)
            expect_error(self, all_turned, [hall, numbers], errors.TooMany, most=2000)
        self.assertEqual(1920, len(all_turned(NAMED["d", 5], (-3,) * 5)))
        self.assertEqual(720, len(all_turned(NAMED["a", 5], (5, 4, 3, 2, 1))))
        beside = hall_of(6, (0, 1, 1, 1), (1, 2, 1, 1), (2, 3, 1, 1), (2, 4, 1, 1))
        self.assertEqual(1920, len(all_turned(beside, (1, 1, 1, 1, 1, 0))))
        expect_error(self, all_turned, [beside, (1, 1, 1, 1, 1, -1)], errors.TooMany, most=2000)

    def test_returned_lists_are_new(self):
        all_turned(CHAIN, (1, 0)).clear()
        self.assertEqual([(-1, 1), (0, -1), (1, 0)], all_turned(CHAIN, (1, 0)))

    def test_wrong_arguments(self):
        for function in (count_numbers, all_turned, number_word):
            try_wrongs(self, function, (BENT, (0, -1, 2)), [arguments.NOT_ENDING, arguments.numbers(BENT)])
            try_wrongs(self, function, (LAMP, (0,)), [arguments.NOT_ENDING, arguments.numbers(LAMP)])
            for hall in ENDLESS_HALLS + [FULL]:
                expect_error(self, function, [hall, None], errors.NotEnding)


if __name__ == "__main__":
    unittest.main()
