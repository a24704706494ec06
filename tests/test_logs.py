"""Points 47 to 49: logs of presses."""

import unittest
from itertools import product

from kaleidorooms import errors
from kaleidorooms.logs import (
    count_fits, first_against, fits, numbers_behind, plays_of, starts_told, times_pressed,
)
from kaleidorooms.plays import behind, count_plays, presses
from tests import arguments
from tests.helpers import (
    BENT, CHAIN, FULL, LAMP, MIXED, NAMED, NO_INTEGERS, PAIR, RING, SOME_HALLS, STEEP, TWO_FLATS, all_plays, dice_of,
    expect_error, hall_of, pressed_plainly, random_numbers, try_wrongs, wrongs,
)

LOST = ("lost",)


def fits_plainly(hall, start, play, log):
    """Whether a play fits a log, entry by entry."""
    numbers, left = start, list(play)
    for entry in log:
        if entry[0] == "seen":
            if numbers[entry[1]] != entry[2]:
                return False
            continue
        if not left or (entry[0] == "pressed" and left[0] != entry[1]):
            return False
        numbers = pressed_plainly(hall, numbers, left.pop(0))
    return not left


def random_log(dice, hall, start, most=5, wrong=0.1):
    """A log of some play of a start, with gaps, here and there perhaps with another entry."""
    log, numbers = [], start
    for _ in range(dice.randint(0, most)):
        able = [lamp for lamp in range(len(hall)) if numbers[lamp] < 0]
        while dice.random() < 0.4:
            lamp = dice.randrange(len(hall))
            log.append(("seen", lamp, numbers[lamp] + (dice.random() < wrong)))
        if able:
            lamp = dice.choice(able)
            numbers = pressed_plainly(hall, numbers, lamp)
            lost = dice.random() < 0.5 and log.count(LOST) < 6
            log.append(LOST if lost else ("pressed", lamp if dice.random() > wrong else dice.randrange(len(hall))))
    return tuple(log)[:20]


def some_logs(seed, halls=SOME_HALLS, times=8, most=5, wrong=0.1):
    """Halls with starts and logs, by dice."""
    dice = dice_of(seed)
    for hall in halls:
        for _ in range(times):
            start = random_numbers(dice, hall, 3)
            yield hall, start, random_log(dice, hall, start, most, wrong)


class Logs(unittest.TestCase):
    def test_against_all_plays(self):
        fitted = 0
        for hall, start, log in some_logs(470):
            plays = [play for play, _ in all_plays(hall, start, 5) if fits_plainly(hall, start, play, log)]
            fitted += bool(plays)
            self.assertEqual(sorted(plays), plays_of(hall, start, log))
            self.assertEqual(len(plays), count_fits(hall, start, log))
            behind_them = {behind(hall, start, play) for play in plays}
            self.assertEqual(sorted(behind_them), numbers_behind(hall, start, log))
            times = tuple([
                (min(play.count(lamp) for play in plays), max(play.count(lamp) for play in plays))
                for lamp in range(len(hall))
            ]) if plays else None
            self.assertEqual(times, times_pressed(hall, start, log))
        self.assertGreater(fitted, 50)

    def test_times_pressed_of_many_plays(self):
        dice = dice_of(473)
        for hall in (hall_of(4), NAMED["a", 4], BENT, hall_of(4, (0, 1, 1, 1), (2, 3, 2, 1)), RING, PAIR):
            for _ in range(12):
                start = tuple([dice.choice((-2, -1, -1, 0, 1)) for _ in range(len(hall))])
                many = dice.randint(1, 4)
                plays = [play for play, _ in all_plays(hall, start, many) if len(play) == many]
                times = [
                    (min(play.count(lamp) for play in plays), max(play.count(lamp) for play in plays))
                    for lamp in range(len(hall)) if plays
                ]
                self.assertEqual(tuple(times) if plays else None, times_pressed(hall, start, (LOST,) * many))

    def test_fits(self):
        for hall, start, log in some_logs(471, times=4, most=4):
            for play, _ in all_plays(hall, start, 4):
                self.assertIs(fits_plainly(hall, start, play, log), fits(hall, start, play, log))

    def test_first_against(self):
        found = set()
        for hall, start, log in some_logs(472, wrong=0.3):
            counts = [
                sum(fits_plainly(hall, start, play, log[:index]) for play, _ in all_plays(hall, start, 5))
                for index in range(len(log) + 1)
            ]
            expected = counts.index(0) - 1 if 0 in counts else None
            self.assertEqual(expected, first_against(hall, start, log))
            found.add(expected)
        self.assertGreater(len(found), 4)

    def test_logs_without_entries(self):
        for hall in SOME_HALLS + [FULL]:
            start = (-1,) * len(hall)
            self.assertIs(True, fits(hall, start, (), ()))
            self.assertIs(False, fits(hall, start, (0,), ()))
            self.assertEqual([()], plays_of(hall, start, ()))
            self.assertEqual(1, count_fits(hall, start, ()))
            self.assertIsNone(first_against(hall, start, ()))
            self.assertEqual([start], numbers_behind(hall, start, ()))
            self.assertEqual(((0, 0),) * len(hall), times_pressed(hall, start, ()))

    def test_logs_that_no_play_fits(self):
        for log, index in (
            ((LOST, LOST, LOST, LOST), 3), ((("pressed", 1), ("pressed", 1)), 1), ((("seen", 0, -2),), 0),
            ((("seen", 0, -1), ("seen", 0, 1)), 1), ((LOST, ("seen", 0, -3), ("seen", 1, -3)), 2),
            ((LOST, LOST, LOST, ("seen", 0, 2), ("seen", 1, 3), LOST), 4),
        ):
            self.assertEqual([], plays_of(CHAIN, (-1, -2), log))
            self.assertEqual(0, count_fits(CHAIN, (-1, -2), log))
            self.assertEqual(index, first_against(CHAIN, (-1, -2), log))
            self.assertEqual([], numbers_behind(CHAIN, (-1, -2), log))
            self.assertIsNone(times_pressed(CHAIN, (-1, -2), log))
        self.assertEqual(0, first_against(CHAIN, (0, 0), (LOST,)))

    def test_20_entries(self):
        log = (("pressed", 0), ("pressed", 1)) * 10
        self.assertEqual([(0, 1) * 10], plays_of(PAIR, (-1, -2), log))
        self.assertEqual(((10, 10), (10, 10)), times_pressed(PAIR, (-1, -2), log))
        self.assertIsNone(first_against(PAIR, (-1, -2), log))
        self.assertEqual(0, first_against(PAIR, (1, -2), log))
        gaps = (LOST, ("pressed", 1), LOST, ("pressed", 1)) * 3 + (("pressed", 0), ("pressed", 1)) * 4
        self.assertEqual([(0, 1) * 10], plays_of(PAIR, (-1, -2), gaps))
        seen = (("seen", 0, -1),) * 20
        self.assertEqual([()], plays_of(PAIR, (-1, 10 ** 30), seen))
        self.assertEqual(1, count_fits(PAIR, (-1, 10 ** 30), (("seen", 1, 10 ** 30),) * 20))

    def test_six_lost_ones_and_2000_plays_and_more(self):
        six = (LOST,) * 6
        hall = hall_of(8)
        self.assertEqual(20160, count_fits(hall, (-1,) * 8, six))
        expect_error(self, plays_of, [hall, (-1,) * 8, six], errors.TooMany, most=2000)
        self.assertEqual(28, len(numbers_behind(hall, (-1,) * 8, six)))
        self.assertEqual(((0, 1),) * 8, times_pressed(hall, (-1,) * 8, six))
        self.assertEqual(720, len(plays_of(hall, (-1,) * 6 + (0, 1), six)))
        self.assertEqual(1680, len(plays_of(hall, (-1,) * 8, (LOST,) * 4)))
        even = hall_of(8, (0, 5, 2, 1), (4, 5, 1, 1), (0, 7, 1, 1))
        self.assertEqual(2000, len(plays_of(even, (-2, 2, -1, 0, -2, -1, -3, 1), six)))
        # Too many of their beginnings fit, but few plays.
        told = six[:5] + (("seen", 0, 1), ("seen", 1, 1), ("seen", 2, 1), ("seen", 3, 1))
        self.assertEqual(4 * 120, len(plays_of(hall, (-1,) * 8, told)))
        self.assertEqual(8 * 7 ** 5, count_fits(FULL, (-1,) * 8, six))

    def test_lost_presses_alone(self):
        three = (-1, -2, -3)
        for hall, start in ((BENT, (0, 0, -1)), (CHAIN, (-1, -2)), (NAMED["a", 3], three), (hall_of(3), three)):
            many = presses(hall, start)
            self.assertLessEqual(many, 6)
            self.assertEqual(count_plays(hall, start), count_fits(hall, start, (LOST,) * many))
            if many < 6:
                self.assertEqual(0, count_fits(hall, start, (LOST,) * (many + 1)))


class StartsTold(unittest.TestCase):
    def test_against_all_starts(self):
        dice = dice_of(490)
        for hall in (LAMP, CHAIN, PAIR, STEEP, BENT, RING):
            for far in range(4):
                for most in (0, 2, 3):
                    log = random_log(dice, hall, random_numbers(dice, hall, far), most)
                    starts = product(range(-far, far + 1), repeat=len(hall))
                    expected = [start for start in starts if count_fits(hall, start, log) > 0]
                    self.assertEqual(expected, starts_told(hall, log, far))

    def test_far_of_0_and_3(self):
        for hall in SOME_HALLS + [FULL]:
            self.assertEqual([(0,) * len(hall)], starts_told(hall, (), 0))
            self.assertEqual([], starts_told(hall, (LOST,), 0))
        self.assertEqual([(number,) for number in range(-3, 4)], starts_told(LAMP, (), 3))
        self.assertEqual([(-3,), (-2,), (-1,)], starts_told(LAMP, (LOST,), 3))
        self.assertEqual([], starts_told(LAMP, (LOST, LOST), 3))
        self.assertEqual(343, len(starts_told(BENT, (), 3)))

    def test_2000_starts_and_more(self):
        self.assertEqual(625, len(starts_told(hall_of(4), (), 2)))
        self.assertEqual(729, len(starts_told(MIXED, (), 1)))
        never = (LOST,) * 6 + (("seen", 0, 10 ** 9),)
        for hall, far in ((hall_of(4), 3), (TWO_FLATS, 2), (NAMED["a", 7], 1), (FULL, 1), (FULL, 3), (MIXED, 2)):
            for log in ((), (LOST,), never):
                expect_error(self, starts_told, [hall, log, far], errors.TooMany, most=2000)
        self.assertEqual([], starts_told(BENT, never, 3))

    def test_no_lamp_of_the_hall(self):
        expect_error(self, starts_told, [FULL, (("pressed", 8),), 3], errors.BadLog, index=0)
        expect_error(self, starts_told, [FULL, (), 4], errors.BadFar)

    def test_returned_lists_are_new(self):
        for function, more in (
            (plays_of, [(-1, 0), (LOST,)]), (numbers_behind, [(-1, 0), (LOST,)]), (starts_told, [(LOST,), 1]),
        ):
            before = list(function(CHAIN, *more))
            function(CHAIN, *more).clear()
            self.assertEqual(before, function(CHAIN, *more))


class WrongArguments(unittest.TestCase):
    def test_wrong_arguments(self):
        start, entries = (-1, -2, 3), (LOST, ("pressed", 1), ("seen", 0, 5))
        halls, numbers, logs = arguments.HALL, arguments.numbers(BENT), arguments.log(BENT, *entries)
        plays = arguments.play(BENT, start, (0, 1))
        try_wrongs(self, fits, (BENT, start, (0, 1), entries), [halls, numbers, plays, logs])
        for function in (plays_of, count_fits, first_against, numbers_behind, times_pressed):
            try_wrongs(self, function, (BENT, start, entries), [halls, numbers, logs])
        fars = wrongs(errors.BadFar, NO_INTEGERS + [-1, 4, 10 ** 30, "3", [3]])
        try_wrongs(self, starts_told, (BENT, entries, 2), [halls, logs, fars])

    def test_logs_of_lists(self):
        for log in ([LOST], [], (["lost"],), (("seen", 0, True),), (("pressed", False),)):
            index = None if isinstance(log, list) else 0
            expect_error(self, count_fits, [LAMP, (-1,), log], errors.BadLog, index=index)

    def test_a_seventh_lost_one(self):
        seen = ("seen", 0, -1)
        expect_error(self, count_fits, [LAMP, (-1,), (seen, LOST) * 7], errors.BadLog, index=13)
        self.assertEqual(0, count_fits(LAMP, (-1,), (seen, LOST) * 6))
        expect_error(self, count_fits, [LAMP, (-1,), (seen,) * 13 + (LOST,) * 7], errors.BadLog, index=19)
        expect_error(self, count_fits, [LAMP, (-1,), (LOST,) * 7 + (None,)], errors.BadLog, index=6)
        expect_error(self, count_fits, [LAMP, (-1,), (None,) + (LOST,) * 7], errors.BadLog, index=0)


if __name__ == "__main__":
    unittest.main()
