"""Points 5 to 9: plays."""

import unittest
from itertools import product

from kaleidorooms import errors
from kaleidorooms.halls import wings
from kaleidorooms.loads import kind, load
from kaleidorooms.plays import (
    able, all_numbers, behind, count_plays, end, first_play, handed, never_paper, pressed, presses, shows_never,
    starts_to,
)
from tests import arguments
from tests.helpers import (
    BENT, CHAIN, ENDING_HALLS, FULL, LAMP, LEAN, MIXED, NAMED, PAIR, RING, SOME_HALLS, STEEP, TWO_FLATS, WILD_RING,
    all_plays, dice_of, expect_error, hall_of, led_plainly, pressed_plainly, random_hall, random_numbers, rooms_to,
    try_wrongs,
)


def short_starts(hall, dice, many, most):
    """Some starts of a hall whose plays end behind few presses."""
    found = []
    while len(found) < many:
        start = random_numbers(dice, hall, 2)
        try:
            count = presses(hall, start)
        except errors.TooLong:
            continue
        if count is not None and count <= most:
            found.append(start)
    return found


class Presses(unittest.TestCase):
    def test_able_and_pressed(self):
        dice = dice_of(5)
        for hall in SOME_HALLS + [FULL]:
            for _ in range(20):
                numbers = random_numbers(dice, hall, 4)
                lamps = tuple(lamp for lamp in range(len(hall)) if numbers[lamp] < 0)
                self.assertEqual(lamps, able(hall, numbers))
                for lamp in range(len(hall)):
                    if lamp in lamps:
                        self.assertEqual(pressed_plainly(hall, numbers, lamp), pressed(hall, numbers, lamp))
                    else:
                        expect_error(self, pressed, [hall, numbers, lamp], errors.NotBelow)

    def test_nought_is_not_below(self):
        self.assertEqual((), able(CHAIN, (0, 0)))
        expect_error(self, pressed, [CHAIN, (0, -1), 0], errors.NotBelow)

    def test_times_and_signs(self):
        self.assertEqual((5, -17), pressed(LEAN, (-5, 3), 0))
        self.assertEqual((-4, 3), pressed(LEAN, (-1, -3), 1))
        self.assertEqual((10 ** 40,), pressed(LAMP, (-10 ** 40,), 0))
        self.assertEqual((-1,) * 7 + (1,), pressed(FULL, (3,) * 7 + (-1,), 7))

    def test_behind(self):
        dice = dice_of(6)
        for hall in SOME_HALLS:
            for _ in range(10):
                start = random_numbers(dice, hall)
                play, numbers = (), start
                self.assertEqual(start, behind(hall, start, ()))
                while able(hall, numbers) and len(play) < 12:
                    lamp = dice.choice(able(hall, numbers))
                    play, numbers = play + (lamp,), pressed(hall, numbers, lamp)
                    self.assertEqual(led_plainly(hall, start, play), behind(hall, start, play))

    def test_behind_a_long_play(self):
        play = (0, 1) * 2500
        self.assertEqual((-5001, 5000), behind(PAIR, (-1, 0), play))
        expect_error(self, behind, [PAIR, (-1, 0), play + (0,)], errors.BadPlay, index=None)
        expect_error(self, behind, [PAIR, (-1, 0), play[:4999] + (0,)], errors.BadPlay, index=4999)
        self.assertEqual(5000, presses(PAIR, (-5000, 5001)))
        self.assertEqual((0, 1), behind(PAIR, (-5000, 5001), first_play(PAIR, (-5000, 5001))))

    def test_bad_plays(self):
        for thing in (1, 2, -1, True, None, "0", (0,), [0]):
            expect_error(self, behind, [CHAIN, (-1, 0), (thing,)], errors.BadPlay, index=0)
        expect_error(self, behind, [CHAIN, (-1, -2), (0, 1, 0, 1)], errors.BadPlay, index=3)
        expect_error(self, behind, [CHAIN, (-1, -2), (0, 0, None)], errors.BadPlay, index=1)
        expect_error(self, behind, [CHAIN, (1, 2), [0]], errors.BadPlay, index=None)


class Papers(unittest.TestCase):
    def test_sum_of_flat_loads(self):
        for hall in (PAIR, LEAN, RING):
            wing = wings(hall)[0]
            for start in product(range(-3, 4), repeat=len(hall)):
                total = sum(number * own for number, own in zip(start, load(hall, wing)))
                never = total < 0 or total == 0 and start != (0,) * len(hall)
                self.assertEqual((wing, load(hall, wing)) if never else None, never_paper(hall, start))
                self.assertEqual(never, shows_never(hall, start, (wing, load(hall, wing))))
                self.assertEqual(never, end(hall, start) is None)

    def test_first_flat_wing_that_has_one(self):
        first, second = ((0, 2), (2, 1)), ((1, 3, 4), (1, 1, 1))
        self.assertEqual(first, never_paper(TWO_FLATS, (-1, -1, 0, 0, 0)))
        self.assertEqual(second, never_paper(TWO_FLATS, (1, -1, -1, 0, 0)))
        self.assertEqual(first, never_paper(TWO_FLATS, (-1, 1, 2, 0, 0)))
        self.assertIsNone(never_paper(TWO_FLATS, (-1, 1, 3, 0, 0)))
        self.assertIsNone(never_paper(TWO_FLATS, (0, 0, 0, 0, 0)))
        self.assertEqual(((1, 4), (1, 1)), never_paper(MIXED, (-5, 1, -5, -5, -1, -5)))
        # A wild wing is no flat one, an ending one neither.
        self.assertIsNone(never_paper(MIXED, (-5, 0, -5, -5, 0, -5)))
        self.assertIsNone(never_paper(STEEP, (-1, -1)))
        self.assertIsNone(never_paper(CHAIN, (-1, -1)))

    def test_shows_never(self):
        ring = (0, 1, 2)
        self.assertTrue(shows_never(RING, (-3, 1, 1), (ring, (1, 1, 1))))
        self.assertTrue(shows_never(RING, (-3, 1, 2), (ring, (7, 7, 7))))
        self.assertFalse(shows_never(RING, (0, 0, 0), (ring, (1, 1, 1))))
        self.assertFalse(shows_never(RING, (-3, 2, 2), (ring, (1, 1, 1))))
        # Loads that are not flat show nothing of a flat wing.
        self.assertFalse(shows_never(RING, (-3, 1, 1), (ring, (2, 1, 1))))
        self.assertTrue(shows_never(STEEP, (-1, 1), ((0, 1), (4, 3))))
        # The sum by a wild load must be below 0.
        self.assertFalse(shows_never(STEEP, (-3, 4), ((0, 1), (4, 3))))
        self.assertTrue(shows_never(STEEP, (-4, 5), ((0, 1), (4, 3))))
        self.assertTrue(shows_never(STEEP, (-3, 3), ((0, 1), (5, 4))))
        # An ending load shows nothing.
        self.assertFalse(shows_never(CHAIN, (-1, -1), ((0, 1), (1, 1))))
        self.assertTrue(shows_never(MIXED, (0, -1, 0, 0, 0, 0), ((1, 4), (1, 1))))
        self.assertTrue(shows_never(MIXED, (0, 0, 0, -1, 0, 0), ((3, 5), (1, 1))))
        self.assertFalse(shows_never(MIXED, (0, 0, 0, 0, -1, 0), ((3, 5), (1, 1))))
        self.assertFalse(shows_never(MIXED, (-1, 0, 0, 0, 0, 0), ((0, 2), (1, 1))))

    def test_what_is_shown_holds(self):
        dice = dice_of(7)
        for hall in (PAIR, LEAN, RING, STEEP, WILD_RING, MIXED):
            for _ in range(30):
                start = random_numbers(dice, hall)
                for wing in wings(hall):
                    if shows_never(hall, start, (wing, load(hall, wing))):
                        numbers = start
                        for _ in range(200):
                            numbers = pressed(hall, numbers, dice.choice(able(hall, numbers)))

    def test_shows_never_of_any_value(self):
        ring, one = (0, 1, 2), (1, 1, 1)
        values = arguments.ODD_VALUES + [(ring,), (ring, one, one), [ring, one], (list(ring), one), (ring, list(one))]
        values += [((0, True, 2), one), (ring, (1, 1, True)), (ring, (0, 0, 0)), (ring, (-1, -1, -1)), (ring, (1, 1))]
        values += [((0, 1), one), ((2, 1, 0), one), (None, one), (ring, None), ("flat", one), (one, ring), ((), ())]
        values += [(ring, (1, 1, 1, 1)), ({}, one), (ring, {}), (ring, "111"), (((0, 1, 2),), one), ((0,), (1,))]
        for value in values:
            self.assertIs(False, shows_never(RING, (-3, 1, 1), value), value)
        self.assertIs(True, shows_never(RING, (-3, 1, 1), (ring, one)))


class Ends(unittest.TestCase):
    def test_all_plays(self):
        dice = dice_of(8)
        for hall in SOME_HALLS:
            for start in short_starts(hall, dice, 12, 7):
                self.check(hall, start)

    def check(self, hall, start):
        most = presses(hall, start)
        told = all_plays(hall, start, most + 1)
        ended = sorted((play, numbers) for play, numbers in told if min(numbers) >= 0)
        self.assertEqual({(most, end(hall, start))}, {(len(play), numbers) for play, numbers in ended})
        self.assertEqual(ended[0][0], first_play(hall, start))
        self.assertEqual(len(ended), count_plays(hall, start))
        numbers = sorted({(len(play), numbers) for play, numbers in told})
        self.assertEqual([row for _, row in numbers], all_numbers(hall, start))
        for play, _ in ended:
            turned = [0] * len(hall)
            for at, lamp in enumerate(play):
                turned[lamp] += abs(led_plainly(hall, start, play[:at])[lamp])
            self.assertEqual(tuple(turned), handed(hall, start))

    def test_start_that_is_an_end(self):
        for hall in SOME_HALLS + [FULL]:
            start = (0,) * len(hall)
            self.assertEqual((start, 0, (), start), (
                end(hall, start), presses(hall, start), first_play(hall, start), handed(hall, start)))
            self.assertEqual((1, [start]), (count_plays(hall, start), all_numbers(hall, start)))

    def test_one_lamp(self):
        self.assertEqual(((7,), 1, (0,), (7,)), (
            end(LAMP, (-7,)), presses(LAMP, (-7,)), first_play(LAMP, (-7,)), handed(LAMP, (-7,))))
        self.assertEqual((1, [(-7,), (7,)]), (count_plays(LAMP, (-7,)), all_numbers(LAMP, (-7,))))

    def test_eight_lamps(self):
        for name, most in ((("e", 8), 120), (("a", 8), 36), (("d", 8), 56), (("b", 8), 64), (("c", 8), 64)):
            start = (-1,) * 8
            self.assertEqual(most, presses(NAMED[name], start))
            self.assertEqual((1,) * 8, end(NAMED[name], start))
            self.assertEqual(most, len(first_play(NAMED[name], start)))

    def test_none_if_never(self):
        for function in (end, presses, first_play, handed, count_plays, all_numbers):
            self.assertIsNone(function(PAIR, (1, -1)))
            self.assertIsNone(function(RING, (0, 0, -1)))
            # Of a start that never ends for two reasons, the paper is told.
            self.assertIsNone(function(MIXED, (0, -1, 0, -1, 0, -1)))

    def test_too_long(self):
        for function in (end, presses, first_play, handed, count_plays, all_numbers):
            expect_error(self, function, [PAIR, (-5001, 5002)], errors.TooLong, most=5000)
            expect_error(self, function, [PAIR, (-10 ** 30, 10 ** 30 + 1)], errors.TooLong, most=5000)
            expect_error(self, function, [STEEP, (-1, 0)], errors.TooLong, most=5000)
            expect_error(self, function, [FULL, (1,) * 7 + (-1,)], errors.TooLong, most=5000)
            # Any press of the wild wing goes on for ever, even if it is not pressed first.
            expect_error(self, function, [MIXED, (-1, 0, -1, 1, 0, -2)], errors.TooLong, most=5000)

    def test_just_long_enough(self):
        start = (-5000, 5001)
        self.assertEqual(5000, presses(PAIR, start))
        self.assertEqual((0, 1) * 2500, first_play(PAIR, start))
        # Each press hands one less.
        self.assertEqual((sum(range(2, 5001, 2)), sum(range(1, 5000, 2))), handed(PAIR, start))
        self.assertEqual((0, 1), end(PAIR, start))

    def test_too_many(self):
        for function in (count_plays, all_numbers):
            expect_error(self, function, [PAIR, (-2000, 2001)], errors.TooMany, most=2000)
            expect_error(self, function, [NAMED["a", 8], (-1,) * 8], errors.TooMany, most=2000)
            # Too long is told ahead of too many.
            expect_error(self, function, [PAIR, (-6000, 6001)], errors.TooLong, most=5000)
        self.assertEqual(2000, len(all_numbers(PAIR, (-1999, 2000))))
        self.assertEqual(1, count_plays(PAIR, (-1999, 2000)))
        self.assertEqual(1920, len(all_numbers(NAMED["d", 5], (-1,) * 5)))
        self.assertEqual(768, count_plays(NAMED["a", 4], (-1,) * 4))
        self.assertEqual(292864, count_plays(NAMED["a", 5], (-1,) * 5))

    def test_returned_lists_are_new(self):
        first = all_numbers(CHAIN, (-1, 0))
        first.clear()
        self.assertEqual([(-1, 0), (1, -1), (0, 1)], all_numbers(CHAIN, (-1, 0)))
        starts_to(CHAIN, (1, 0), 0).clear()
        self.assertEqual([(1, 0)], starts_to(CHAIN, (1, 0), 0))


class Starts(unittest.TestCase):
    def test_against_all_starts(self):
        for hall, far in ((LAMP, 4), (CHAIN, 6), (PAIR, 9), (LEAN, 20), (RING, 6), (BENT, 8)):
            told = {}
            for start in product(range(-far, far + 1), repeat=len(hall)):
                try:
                    last = end(hall, start)
                except errors.TooLong:
                    continue
                if last is not None and max(last) <= 1:
                    told.setdefault((last, presses(hall, start)), []).append(start)
            for last in product(range(2), repeat=len(hall)):
                for many in range(4):
                    found = starts_to(hall, last, many)
                    self.assertEqual(sorted(found), found)
                    near = [start for start in found if max(map(abs, start)) <= far]
                    self.assertEqual(told.get((last, many), []), near)

    def test_plays_of_starts(self):
        for hall in (WILD_RING, MIXED, STEEP, FULL):
            for many in (0, 1, 3):
                found = starts_to(hall, (1,) * len(hall), many)
                self.assertEqual(len(found), len(set(found)))
                self.assertTrue(found)
                for start in found:
                    self.assertEqual((many, (1,) * len(hall)), (presses(hall, start), end(hall, start)))

    def test_rooms_are_starts(self):
        known = rooms_to(WILD_RING, 9)
        for many in (0, 1, 6, 9):
            expected = sorted(room for room, distance in known.items() if distance == many)
            self.assertEqual(expected, starts_to(WILD_RING, (1, 1, 1), many))

    def test_edges(self):
        self.assertEqual([(0,)], starts_to(LAMP, (0,), 0))
        self.assertEqual([], starts_to(LAMP, (0,), 1))
        self.assertEqual([(-5,)], starts_to(LAMP, (5,), 1))
        self.assertEqual([], starts_to(LAMP, (5,), 20))
        self.assertEqual([(-39, 41), (41, -39)], starts_to(PAIR, (1, 1), 20))
        self.assertEqual([(-1,) * 6], starts_to(hall_of(6), (1,) * 6, 6))

    def test_too_many(self):
        expect_error(self, starts_to, [FULL, (1,) * 8, 20], errors.TooMany, most=2000)
        expect_error(self, starts_to, [FULL, (1,) * 8, 4], errors.TooMany, most=2000)
        self.assertEqual(8 * 7 * 7, len(starts_to(FULL, (1,) * 8, 3)))
        # More than 2000 starts in all, but never so many behind as many presses.
        counts = [len(starts_to(NAMED["a", 6], (1,) * 6, many)) for many in range(21)]
        self.assertEqual((5039, 573), (sum(counts), max(counts)))
        self.assertEqual(counts[1:], counts[:0:-1])
        expect_error(self, starts_to, [NAMED["a", 8], (1,) * 8, 20], errors.TooMany, most=2000)
        expect_error(self, starts_to, [NAMED["a", 8], (1,) * 8, 7], errors.TooMany, most=2000)
        self.assertEqual(1230, len(starts_to(NAMED["a", 8], (1,) * 8, 6)))

    def test_just_2000_starts(self):
        hall = hall_of(7, *[(one, other, 2, 2) for one in range(5) for other in range(one)])
        self.assertEqual(2000, len(starts_to(hall, (1,) * 7, 5)))
        expect_error(self, starts_to, [hall, (1,) * 7, 6], errors.TooMany, most=2000)

    def test_too_many_behind_fewer_presses(self):
        hall = hall_of(8, *[(lamp, lamp + 1, 3, 1) for lamp in range(0, 8, 2)])
        counts = [1]
        for _ in range(4):
            after = [0] * (len(counts) + 6)
            for at, step in product(range(len(counts)), range(7)):
                after[at + step] += counts[at] * (1, 2, 2, 2, 2, 2, 1)[step]
            counts = after
        first = min(at for at, count in enumerate(counts) if count > 2000)
        self.assertEqual(counts[:first], [len(starts_to(hall, (1,) * 8, many)) for many in range(first)])
        self.assertLess(counts[20], 200)
        for many in (first, 20):
            expect_error(self, starts_to, [hall, (1,) * 8, many], errors.TooMany, most=2000)


class Together(unittest.TestCase):
    def test_ending_halls_end(self):
        dice = dice_of(9)
        for hall in ENDING_HALLS + list(NAMED.values()):
            for _ in range(5):
                start = random_numbers(dice, hall, 10 ** 6)
                self.assertGreaterEqual(min(end(hall, start)), 0)

    def test_sums_by_loads(self):
        dice = dice_of(10)
        for _ in range(60):
            hall = random_hall(dice, dice.randint(1, 6))
            numbers = random_numbers(dice, hall)
            for wing in wings(hall):
                worth = load(hall, wing)
                for lamp in set(wing) & set(able(hall, numbers)):
                    before, after = [
                        sum(row[at] * own for at, own in zip(wing, worth))
                        for row in (numbers, pressed(hall, numbers, lamp))
                    ]
                    sign = (after > before) - (after < before)
                    self.assertEqual({"ending": 1, "flat": 0, "wild": -1}[kind(hall, wing)], sign)

    def test_wrong_arguments(self):
        start = (-1, -2)
        numbers, lamp = arguments.numbers(CHAIN), arguments.lamp(CHAIN)
        for function in (able, never_paper, end, first_play, presses, handed, count_plays, all_numbers):
            try_wrongs(self, function, (CHAIN, start), [arguments.HALL, numbers])
            try_wrongs(self, function, (LAMP, (-1,)), [arguments.HALL, arguments.numbers(LAMP)])
        try_wrongs(self, pressed, (CHAIN, start, 0), [arguments.HALL, numbers, lamp])
        play = arguments.play(CHAIN, start, (0, 1))
        try_wrongs(self, behind, (CHAIN, start, (0,)), [arguments.HALL, numbers, play])
        try_wrongs(self, shows_never, (CHAIN, start, None), [arguments.HALL, numbers, []])
        ends = numbers + [arguments.Wrong(value, errors.BadEnd) for value in ((-1, 5), (0, -1), (-3, -3))]
        try_wrongs(self, starts_to, (CHAIN, (1, 0), 2), [arguments.HALL, ends, arguments.many()])
        expect_error(self, starts_to, [FULL, (1,) * 8, 21], errors.BadMany)


if __name__ == "__main__":
    unittest.main()
