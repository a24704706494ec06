"""Point 44: the starts whose plays end at some numbers, and small numbers."""

import unittest
from itertools import product

from kaleidorooms import errors
from kaleidorooms.plays import end
from kaleidorooms.smallends import is_small, small_ends, starts_of
from kaleidorooms.turnedstarts import all_turned
from kaleidorooms.turning import beside
from tests import arguments
from tests.helpers import (
    BENT, CHAIN, ENDLESS_HALLS, FULL, LAMP, NAMED, dice_of, expect_error, hall_of, random_numbers, suite_plainly,
    try_wrongs, wrongs,
)

SMALL = [LAMP, CHAIN, NAMED["b", 2], NAMED["g", 2], hall_of(2, (0, 1, 1, 3)), hall_of(2), hall_of(3, (0, 2, 2, 1))]
SMALL += [BENT, NAMED["a", 3], NAMED["c", 3], NAMED["a", 4], NAMED["d", 4], hall_of(4, (0, 3, 1, 1), (1, 2, 1, 1))]
BIG = NAMED["e", 8]


def starts_plainly(hall, numbers):
    """All starts whose plays end at some numbers: all to which one comes from them through walls."""
    return sorted(suite_plainly(hall, numbers, range(len(hall))))


def is_small_plainly(hall, numbers):
    """Whether all numbers of all starts whose plays end at some numbers are -1, 0 or 1."""
    return all(number in (-1, 0, 1) for start in starts_plainly(hall, numbers) for number in start)


class SmallEnds(unittest.TestCase):
    def test_starts(self):
        dice = dice_of(440)
        for hall in SMALL:
            for far in (0, 1, 1, 2, 10 ** 20):
                numbers = tuple([abs(number) for number in random_numbers(dice, hall, far)])
                found = starts_of(hall, numbers)
                self.assertEqual(starts_plainly(hall, numbers), found)
                self.assertEqual({numbers}, {end(hall, start) for start in found})
                self.assertEqual(all_turned(hall, found[0]), found)

    def test_2000_starts_and_more(self):
        hall = NAMED["d", 5]
        self.assertEqual(1920, len(starts_of(hall, (1, 2, 3, 4, 5))))
        self.assertEqual(240, len(starts_of(BIG, (0, 0, 0, 0, 0, 0, 1, 0))))
        self.assertEqual([(0,) * 8], starts_of(BIG, (0,) * 8))
        for many in ((1, 0, 0, 0, 0, 0, 0, 0), (1,) * 8, (0, 0, 0, 1, 0, 0, 0, 0)):
            expect_error(self, starts_of, [BIG, many], errors.TooMany, most=2000)
        expect_error(self, starts_of, [NAMED["a", 6], (1,) * 6], errors.TooMany, most=2000)
        expect_error(self, starts_of, [beside(hall, LAMP), (1, 1, 1, 1, 1, 1)], errors.TooMany, most=2000)

    def test_is_small(self):
        for hall in SMALL:
            for numbers in product(range(3), repeat=len(hall)):
                self.assertIs(is_small_plainly(hall, numbers), is_small(hall, numbers))
            self.assertIs(False, is_small(hall, (10 ** 30,) + (0,) * (len(hall) - 1)))

    def test_is_small_of_big_halls(self):
        # More than 2000 starts end here, which is_small need not list.
        self.assertIs(False, is_small(BIG, (1,) * 8))
        self.assertIs(False, is_small(BIG, (1, 0, 0, 0, 0, 0, 0, 0)))
        self.assertIs(True, is_small(hall_of(8), (1,) * 8))
        self.assertIs(False, is_small(hall_of(8), (1,) * 7 + (2,)))

    def test_small_ends(self):
        for hall in SMALL:
            found = [numbers for numbers in product(range(3), repeat=len(hall)) if is_small_plainly(hall, numbers)]
            self.assertEqual(found, small_ends(hall))
        for hall in NAMED.values():
            for numbers in small_ends(hall):
                self.assertIs(True, is_small(hall, numbers))
        self.assertEqual([(0,) * 8], small_ends(BIG))
        self.assertEqual([(0,) * 7, (0, 0, 0, 0, 0, 1, 0)], small_ends(NAMED["e", 7]))
        self.assertEqual([2, 3, 1, 1, 4, 9],
                         [len(small_ends(NAMED[name])) for name in (
                             ("e", 7), ("e", 6), ("f", 4), ("g", 2), ("d", 8), ("a", 8))])
        self.assertEqual(list(product((0, 1), repeat=8)), small_ends(hall_of(8)))

    def test_small_ends_of_wings(self):
        hall = beside(NAMED["a", 2], beside(NAMED["b", 2], NAMED["d", 4]))
        found = small_ends(hall)
        self.assertEqual((3 * 2 * 4, True), (len(found), found == sorted(set(found))))
        self.assertEqual({(0, 0), (0, 1), (1, 0)}, {numbers[:2] for numbers in found})

    def test_returned_lists_are_new(self):
        for function, more in ((starts_of, [(1, 0)]), (small_ends, [])):
            before = list(function(CHAIN, *more))
            function(CHAIN, *more).clear()
            self.assertEqual(before, function(CHAIN, *more))

    def test_wrong_arguments(self):
        below = wrongs(errors.BadEnd, [(-1, 0, 0), (5, 5, -5), (0, -10 ** 30, 1), (-1, -1, -1)])
        for function in (starts_of, is_small):
            try_wrongs(self, function, (BENT, (0, 1, 0)), [arguments.NOT_ENDING, arguments.numbers(BENT) + below])
            expect_error(self, function, [BIG, (1,) * 7 + (-1,)], errors.BadEnd)
        try_wrongs(self, small_ends, (BENT,), [arguments.NOT_ENDING])
        for hall in ENDLESS_HALLS + [FULL]:
            for function, more in ((starts_of, [None]), (is_small, [None]), (small_ends, [])):
                expect_error(self, function, [hall] + more, errors.NotEnding)


if __name__ == "__main__":
    unittest.main()
