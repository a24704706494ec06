"""Point 39: starts of level 0, to which plays come back."""

import unittest

from kaleidorooms import errors
from kaleidorooms.flats import level
from kaleidorooms.loads import load
from kaleidorooms.plays import behind
from kaleidorooms.rings import comes_back, ring_numbers, way_back
from tests import arguments
from tests.helpers import (
    FLATS, LEAN, PAIR, RING, all_plays, chain_of, dice_of, expect_error, forked, pressed_plainly, random_numbers,
    ring_of, try_wrongs, wrongs,
)
from tests.test_flats import NOT_FLAT


def levelled(hall, numbers):
    """Numbers of level 0, made from any by changing one of them."""
    worth = load(hall, tuple(range(len(hall))))
    lamp = worth.index(1)
    changed = list(numbers)
    changed[lamp] -= level(hall, numbers)
    return tuple(changed)


def coming(hall, start, most):
    """All numbers that come in the plays of a start, or None if they are more than most."""
    found = {start}
    fresh = [start]
    while fresh and len(found) <= most:
        last = fresh.pop()
        for lamp in range(len(hall)):
            if last[lamp] < 0:
                beyond = pressed_plainly(hall, last, lamp)
                if beyond not in found:
                    found.add(beyond)
                    fresh.append(beyond)
    return found if len(found) <= most else None


def least_back(hall, start):
    """The least of the shortest plays that lead back, by trying all plays of each length."""
    rows = [((), start)]
    while rows:
        rows = [
            (play + (lamp,), pressed_plainly(hall, numbers, lamp))
            for play, numbers in rows for lamp in range(len(hall)) if numbers[lamp] < 0
        ]
        back = [play for play, numbers in rows if numbers == start]
        if back:
            return min(back)
    return None


class Rings(unittest.TestCase):
    def test_against_all_plays(self):
        dice = dice_of(390)
        many = 0
        for hall in FLATS:
            for far in (1, 1, 2, 9):
                start = levelled(hall, random_numbers(dice, hall, far))
                found = coming(hall, start, 500)
                if found is None:
                    continue
                many += 1
                self.assertEqual(sorted(found), ring_numbers(hall, start))
                way = way_back(hall, start)
                if not any(start):
                    self.assertIsNone(way)
                    continue
                self.assertEqual(start, behind(hall, start, way))
                for numbers in dice.sample(sorted(found), min(3, len(found))):
                    self.assertEqual(sorted(found), ring_numbers(hall, numbers))
        self.assertGreater(many, 40)

    def test_least_ways_back(self):
        dice = dice_of(391)
        for hall in [hall for hall in FLATS if len(hall) <= 4]:
            for far in (1, 2, 3, 3, 10 ** 20):
                start = levelled(hall, random_numbers(dice, hall, far))
                if any(start) and (len(hall) < 4 or far == 1):
                    self.assertEqual(least_back(hall, start), way_back(hall, start))

    def test_by_hand(self):
        self.assertEqual([(-1, 1), (1, -1)], ring_numbers(PAIR, (1, -1)))
        self.assertEqual((0, 1), way_back(PAIR, (-1, 1)))
        # Not all numbers to which one comes through walls come in plays.
        self.assertEqual([(-1, 0, 1), (0, 1, -1), (1, -1, 0)], ring_numbers(RING, (1, -1, 0)))
        self.assertEqual((1, 2, 0), way_back(RING, (1, -1, 0)))
        self.assertEqual([(-1, 1, 0), (0, -1, 1), (1, 0, -1)], ring_numbers(RING, (-1, 1, 0)))
        self.assertEqual(((0, 1), (1, 0)), (way_back(LEAN, (-1, 2)), way_back(LEAN, (1, -2))))

    def test_all_nought(self):
        for hall in FLATS:
            zeros = (0,) * len(hall)
            self.assertEqual([zeros], ring_numbers(hall, zeros))
            self.assertIsNone(way_back(hall, zeros))
            self.assertIs(False, comes_back(hall, zeros))

    def test_2000_numbers_and_more(self):
        six = ring_of(6)
        self.assertEqual(720, len(ring_numbers(six, (5, 4, 3, 2, 1, -15))))
        fork = forked(6, (0, 1, 0, 0), (0, 2, 1, 1))
        start = levelled(fork, (1, 2, 3, 4, 5, 6))
        found = ring_numbers(fork, start)
        self.assertEqual((1920, True), (len(found), found == sorted(set(found))))
        self.assertEqual(start, behind(fork, start, way_back(fork, start)))
        for hall in (ring_of(7), ring_of(8), FLATS[-1]):
            start = levelled(hall, tuple(range(1, len(hall) + 1)))
            for function in (ring_numbers, way_back):
                expect_error(self, function, [hall, start], errors.TooMany, most=2000)
            self.assertIs(True, comes_back(hall, start))
        least = levelled(FLATS[-1], (0, 1) + (0,) * 6)
        self.assertEqual(sorted(coming(FLATS[-1], least, 2000)), ring_numbers(FLATS[-1], least))

    def test_comes_back(self):
        dice = dice_of(392)
        self.assertEqual([False, True, False], [comes_back(PAIR, (number, 1)) for number in (-2, -1, 0)])
        self.assertEqual([False, True, False], [comes_back(LEAN, (1, number)) for number in (-3, -2, -1)])
        for hall in [hall for hall in FLATS if len(hall) <= 3]:
            for far in (0, 1, 1, 2, 3, 5):
                start = random_numbers(dice, hall, far)
                for numbers in (start, levelled(hall, start)):
                    back = any(play and behind_it == numbers for play, behind_it in all_plays(hall, numbers, 7))
                    if back:
                        self.assertIs(True, comes_back(hall, numbers))
                    self.assertIs(level(hall, numbers) == 0 and any(numbers), comes_back(hall, numbers))
            # Below level 0 no numbers come twice, above it all plays end.
            for numbers in ((-1,) * len(hall), (-3,) + (1,) * (len(hall) - 1)):
                self.assertIs(level(hall, numbers) == 0, comes_back(hall, numbers))
        self.assertIs(True, comes_back(PAIR, (10 ** 30, -10 ** 30)))

    def test_returned_lists_are_new(self):
        ring_numbers(PAIR, (2, -2)).clear()
        self.assertEqual([(-2, 2), (2, -2)], ring_numbers(PAIR, (2, -2)))


class WrongArguments(unittest.TestCase):
    def test_other_levels(self):
        for hall in FLATS:
            for start in ((1,) * len(hall), (-1,) * len(hall), (1,) + (0,) * (len(hall) - 1), (10 ** 30,) * len(hall)):
                for function in (ring_numbers, way_back):
                    expect_error(self, function, [hall, start], errors.BadLevel)
                self.assertIs(False, comes_back(hall, start))

    def test_not_flat(self):
        for hall in NOT_FLAT:
            for function in (ring_numbers, way_back, comes_back):
                expect_error(self, function, [hall, None], errors.NotFlat)
                expect_error(self, function, [hall, (0,) * len(hall)], errors.NotFlat)

    def test_wrong_arguments(self):
        halls = arguments.HALL + wrongs(errors.NotFlat, NOT_FLAT)
        hall = chain_of(3, (0, 1, 1, 2), (1, 2, 2, 1))
        for function in (ring_numbers, way_back, comes_back):
            try_wrongs(self, function, (hall, (0, 0, 0)), [halls, arguments.numbers(hall)])


if __name__ == "__main__":
    unittest.main()
