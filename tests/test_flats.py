"""Points 35 and 36: halls that are one flat wing."""

import unittest
from itertools import product

from kaleidorooms import errors
from kaleidorooms.flats import arrows_to, is_flat_arrow, level, presses_far, repeat_of
from kaleidorooms.halls import renamed
from kaleidorooms.loads import load
from kaleidorooms.plays import never_paper, presses
from tests import arguments
from tests.helpers import (
    CHAIN, FLATS, FULL, LAMP, LEAN, MIXED, NAMED, NO_INTEGERS, PAIR, RING, STEEP, TWO_FLATS, WILD_RING, chain_of,
    dice_of, expect_error, forked, hall_of, pressed_plainly, random_numbers, ring_of, try_wrongs, turned_plainly,
    units_plainly, wrongs,
)

NOT_FLAT = [LAMP, CHAIN, STEEP, WILD_RING, MIXED, TWO_FLATS, FULL, NAMED["e", 8], hall_of(2)]
# One flat wing beside a lamp, and two flat wings.
NOT_FLAT += [hall_of(3, (0, 1, 2, 2)), hall_of(3, (1, 2, 2, 2)), hall_of(3, (0, 2, 4, 1))]
NOT_FLAT += [hall_of(4, (0, 1, 2, 2), (2, 3, 4, 1)), hall_of(5, (1, 2, 1, 1), (2, 4, 1, 1), (1, 4, 1, 1))]
BIGGEST = FLATS[-1]


def low_arrows(hall, height):
    """All arrows of at most a height, up or down, by turnings from units through such arrows."""
    found = set(units_plainly(hall))
    fresh = list(found)
    while fresh:
        arrow = fresh.pop()
        for lamp in range(len(hall)):
            other = turned_plainly(hall, arrow, lamp)
            if abs(sum(other)) <= height and other not in found:
                found.add(other)
                fresh.append(other)
    return found


def load_of(hall):
    """The load of a hall that is one flat wing."""
    return load(hall, tuple(range(len(hall))))


def with_load(hall, arrow, times):
    """An arrow to which the load is added some number of times."""
    return tuple([own + times * each for own, each in zip(arrow, load_of(hall))])


def presses_plainly(hall, start):
    """How many presses a play has that ends, however many."""
    many = 0
    while min(start) < 0:
        start = pressed_plainly(hall, start, start.index(min(start)))
        many += 1
    return many


class Levels(unittest.TestCase):
    def test_level(self):
        dice = dice_of(35)
        for hall in FLATS:
            numbers = random_numbers(dice, hall, 10 ** 20)
            expected = sum(own * number for own, number in zip(load_of(hall), numbers))
            self.assertEqual(expected, level(hall, numbers))
            for lamp in range(len(hall)):
                self.assertEqual(expected, level(hall, pressed_plainly(hall, numbers, lamp)))
        self.assertEqual((1, 0, -1), (level(PAIR, (3, -2)), level(PAIR, (3, -3)), level(PAIR, (3, -4))))
        self.assertEqual((5, 4), (level(LEAN, (2, 1)), level(LEAN, (1, 2))))


class FlatArrows(unittest.TestCase):
    def test_arrows_to_heights(self):
        for hall in FLATS:
            known = low_arrows(hall, 44)
            ups = sorted([arrow for arrow in known if min(arrow) >= 0], key=lambda arrow: (sum(arrow), arrow))
            for height in (0, 1, 2, 3, 5, 17, 39, 40):
                self.assertEqual([arrow for arrow in ups if sum(arrow) <= height], arrows_to(hall, height))
        self.assertEqual([], arrows_to(PAIR, 0))
        self.assertEqual([(0, 1), (1, 0)], arrows_to(PAIR, 1))
        self.assertEqual(281, len(arrows_to(BIGGEST, 40)))

    def test_is_flat_arrow(self):
        dice = dice_of(41)
        for hall in FLATS:
            known = sorted(low_arrows(hall, 30))
            for arrow in dice.sample(known, min(40, len(known))):
                self.assertIs(True, is_flat_arrow(hall, arrow))
        triples = (chain_of(3, (0, 1, 3, 1)), chain_of(3, (0, 1, 1, 3)))
        for hall, most in ((PAIR, 6), (LEAN, 6), (RING, 3), (triples[0], 4), (triples[1], 4)):
            known = low_arrows(hall, 60)
            for value in product(range(-most, most + 1), repeat=len(hall)):
                self.assertIs(value in known, is_flat_arrow(hall, value))

    def test_near_misses(self):
        dice = dice_of(36)
        for hall in FLATS:
            known = low_arrows(hall, 60)
            self.assertFalse(is_flat_arrow(hall, (0,) * len(hall)))
            for times in (-2, -1, 1, 2, 3, 10 ** 30):
                self.assertFalse(is_flat_arrow(hall, with_load(hall, (0,) * len(hall), times)))
            for arrow in dice.sample(sorted(known), 12):
                lamp = dice.randrange(len(hall))
                near = arrow[:lamp] + (arrow[lamp] + dice.choice((-1, 1)),) + arrow[lamp + 1:]
                if abs(sum(near)) <= 60:
                    self.assertEqual(near in known, is_flat_arrow(hall, near))
                self.assertFalse(is_flat_arrow(hall, tuple([5 * own for own in arrow])))

    def test_repeats(self):
        repeats = set()
        dice = dice_of(42)
        for hall in FLATS:
            known = low_arrows(hall, 4 * sum(load_of(hall)) + 1)
            ups = [arrow for arrow in known if sum(arrow) <= sum(load_of(hall)) and min(arrow) >= 0]
            downs = [tuple([-own for own in arrow]) for arrow in ups]
            for arrow in units_plainly(hall) + dice.sample(ups + downs, min(25, 2 * len(ups))):
                expected = min(times for times in (1, 2, 3) if with_load(hall, arrow, times) in known)
                self.assertEqual(expected, repeat_of(hall, arrow))
                repeats.add(expected)
        self.assertEqual({1, 2, 3}, repeats)

    def test_far_arrows(self):
        for hall in FLATS:
            for arrow in units_plainly(hall)[::3] + arrows_to(hall, 6)[-2:]:
                repeat = repeat_of(hall, arrow)
                for times in (-10 ** 30, -1, 1, 2, 10 ** 30):
                    far = with_load(hall, arrow, times * repeat)
                    self.assertTrue(is_flat_arrow(hall, far))
                    self.assertEqual(repeat, repeat_of(hall, far))
                    for other in range(1, repeat):
                        self.assertFalse(is_flat_arrow(hall, with_load(hall, far, other)))

    def test_repeats_of_pairs(self):
        self.assertEqual([1, 1], [repeat_of(PAIR, unit) for unit in units_plainly(PAIR)])
        self.assertEqual([1, 2], [repeat_of(LEAN, (1, 0)), repeat_of(LEAN, (0, 1))])
        self.assertEqual([1, 2, 1], [repeat_of(LEAN, (3, 1)), repeat_of(LEAN, (-4, -1)), repeat_of(LEAN, (-1, -1))])
        self.assertEqual([False, True], [is_flat_arrow(LEAN, arrow) for arrow in ((2, 2), (4, 3))])

    def test_renamed(self):
        dice = dice_of(37)
        for hall in FLATS:
            order = tuple(dice.sample(range(len(hall)), len(hall)))
            other = renamed(hall, order)
            listed = sorted(tuple([arrow[lamp] for lamp in order]) for arrow in arrows_to(hall, 12))
            self.assertEqual(listed, sorted(arrows_to(other, 12)))
            start = tuple([dice.randint(-4, 6) for _ in order])
            self.assertEqual(presses_far(hall, start), presses_far(other, tuple([start[lamp] for lamp in order])))

    def test_is_flat_arrow_of_any_value(self):
        values = [[1, 0], (True, 0), (1, False), (1,), (1, 0, 0), "10", (1, "0"), (1, None), ((1, 0),), {1: 0}]
        for value in arguments.ODD_VALUES + values + [(10 ** 40, 0), (1, 1), (0, 0), (-1, -1), (2, 0), (1, -1)]:
            self.assertIs(False, is_flat_arrow(PAIR, value), value)
        self.assertIs(True, is_flat_arrow(PAIR, (1, 0)))

    def test_returned_lists_are_new(self):
        arrows_to(PAIR, 1).clear()
        self.assertEqual([(0, 1), (1, 0)], arrows_to(PAIR, 1))


class PressesFar(unittest.TestCase):
    def test_against_plays(self):
        dice = dice_of(38)
        ended = 0
        for hall in FLATS:
            for far in (1, 2, 3, 5):
                start = random_numbers(dice, hall, far)
                self.assertEqual(presses(hall, start), presses_far(hall, start))
                above = start[:-1] + (start[-1] + dice.randint(0, 3 * far * len(hall)),)
                expected = presses(hall, above)
                self.assertEqual(expected, presses_far(hall, above))
                self.assertEqual(expected is None, never_paper(hall, above) is not None)
                ended += expected is not None and expected > 0
        self.assertGreater(ended, 30)

    def test_longer_plays(self):
        for hall, start in (
            (PAIR, (-7000, 7001)), (LEAN, (-3000, 6001)), (LEAN, (3001, -6001)), (RING, (-3000, 4, 2998)),
            (chain_of(3, (0, 1, 3, 1)), (-900, 1300, 102)), (ring_of(4), (-900, 0, 901, 0)),
        ):
            many = presses_plainly(hall, start)
            self.assertGreater(many, 2000)
            self.assertEqual(many, presses_far(hall, start))
        many = presses_far(PAIR, (-7000, 7001))
        expect_error(self, presses, [PAIR, (-7000, 7001)], errors.TooLong, most=5000)
        self.assertEqual(7000, many)

    def test_presses_without_end_of_digits(self):
        self.assertEqual(10 ** 30, presses_far(PAIR, (-10 ** 30, 10 ** 30 + 1)))
        self.assertEqual(1, presses_far(PAIR, (-1, 10 ** 30)))
        dice = dice_of(39)
        for hall in FLATS:
            numbers = random_numbers(dice, hall, 10 ** 6)
            start = (numbers[0] + 1 + max(0, -level(hall, numbers)),) + numbers[1:]
            if never_paper(hall, start) is None:
                many = presses_far(hall, start)
                lamp = [lamp for lamp in range(len(hall)) if start[lamp] < 0]
                if lamp:
                    # Each press makes them one less.
                    self.assertEqual(many - 1, presses_far(hall, pressed_plainly(hall, start, lamp[0])))
                    self.assertEqual(many - 1, presses_far(hall, pressed_plainly(hall, start, lamp[-1])))

    def test_starts_that_never_end(self):
        for hall in FLATS:
            zeros = (0,) * len(hall)
            worth = load_of(hall)
            self.assertEqual(0, presses_far(hall, zeros))
            self.assertIsNone(presses_far(hall, (-1,) + zeros[1:]))
            self.assertIsNone(presses_far(hall, (worth[1], -worth[0]) + zeros[2:]))
            self.assertIsNone(presses_far(hall, (-worth[1], worth[0]) + zeros[2:]))
            self.assertIsNone(presses_far(hall, (worth[1] * 10 ** 30, -worth[0] * 10 ** 30) + zeros[2:]))
            self.assertEqual(0, presses_far(hall, (1,) + zeros[1:]))
            self.assertEqual(0, presses_far(hall, (10 ** 30,) * len(hall)))


class WrongArguments(unittest.TestCase):
    def test_not_flat(self):
        for hall in NOT_FLAT:
            for function, more in (
                (level, [None]), (is_flat_arrow, [None]), (arrows_to, [None]), (repeat_of, [None]),
                (presses_far, [None]), (level, [(0,) * len(hall)]), (arrows_to, [3]),
            ):
                expect_error(self, function, [hall] + more, errors.NotFlat)

    def test_wrong_arguments(self):
        halls = arguments.HALL + wrongs(errors.NotFlat, NOT_FLAT)
        hall = forked(5, (0, 1, 0, 0), (0, 2, 1, 1))
        heights = wrongs(errors.BadHeight, NO_INTEGERS[1:] + [None, -1, 41, 10 ** 30, "3", [3]])
        listed = [wrong.value for wrong in arguments.numbers(hall)]
        some = listed + [(0,) * 5, (1, 1, 2, 1, 1), (2, 0, 0, 0, 0), (1, 0, 0, 0, 1), (10 ** 30,) * 5, (1, -1, 0, 0, 0)]
        arrow = (1, 0, 1, 0, 0)
        try_wrongs(self, level, (hall, (1,) * 5), [halls, arguments.numbers(hall)])
        try_wrongs(self, is_flat_arrow, (hall, None), [halls, []])
        try_wrongs(self, arrows_to, (hall, 3), [halls, heights])
        try_wrongs(self, repeat_of, (hall, arrow), [halls, wrongs(errors.BadArrow, some)])
        try_wrongs(self, presses_far, (hall, (1,) * 5), [halls, arguments.numbers(hall)])


if __name__ == "__main__":
    unittest.main()
