"""Point 50: logs that no play fits but for some doubted entries."""

import unittest
from itertools import combinations

from kaleidorooms.logmends import doubted, mended
from kaleidorooms.logs import count_fits, first_against, fits, plays_of
from kaleidorooms.plays import presses
from tests import arguments
from tests.helpers import (
    BENT, CHAIN, FULL, LAMP, NAMED, PAIR, RING, SOME_HALLS, STEEP, all_plays, dice_of, hall_of, led_plainly,
    pressed_plainly, random_numbers, ring_of, try_wrongs,
)
from tests.test_logs import LOST, some_logs


def wrong_entries(hall, start, play, log):
    """The indexes of the entries that do not tell what is so of a play that has a lamp for each press."""
    numbers, left, found = start, list(play), []
    for index, entry in enumerate(log):
        if entry[0] == "seen":
            if numbers[entry[1]] != entry[2]:
                found.append(index)
            continue
        lamp = left.pop(0)
        if entry[0] == "pressed" and entry[1] != lamp:
            found.append(index)
        numbers = pressed_plainly(hall, numbers, lamp)
    return tuple(found)


def mended_plainly(hall, start, log):
    """The doubted entries and the mended play, by trying all plays; a pair of None if there is none."""
    many = sum(entry[0] != "seen" for entry in log)
    plays = [play for play, _ in all_plays(hall, start, many) if len(play) == many]
    told = [(wrong_entries(hall, start, play, log), play) for play in plays]
    if not told:
        return None, None
    fewest = min(len(wrong) for wrong, _ in told)
    least = min(wrong for wrong, _ in told if len(wrong) == fewest)
    return least, min(play for wrong, play in told if wrong == least)


def nearly_fits(hall, start, play, log, doubts):
    """Whether a play nearly fits a log but for some entries, as the document tells it."""
    return set(wrong_entries(hall, start, play, log)) <= set(doubts)


class Mended(unittest.TestCase):
    def test_against_all_plays(self):
        sizes = set()
        for wrong in (0.1, 0.4, 0.8):
            for hall, start, log in some_logs(int(500 + 10 * wrong), times=7, wrong=wrong):
                doubts, play = mended_plainly(hall, start, log)
                self.assertEqual(doubts, doubted(hall, start, log))
                self.assertEqual(play, mended(hall, start, log))
                sizes.add(None if doubts is None else len(doubts))
        self.assertLessEqual({0, 1, 2, 3}, sizes)

    def test_random_entries(self):
        dice = dice_of(501)
        for hall in SOME_HALLS + [NAMED["a", 3], hall_of(3), ring_of(4)]:
            for _ in range(6):
                start = random_numbers(dice, hall, 2)
                lamps = range(len(hall))
                entries = [("pressed", dice.choice(lamps)) for _ in range(dice.randint(0, 4))]
                entries += [("seen", dice.choice(lamps), dice.randint(-3, 3)) for _ in range(dice.randint(0, 5))]
                entries += [LOST] * dice.randint(0, 1)
                log = tuple(dice.sample(entries, len(entries)))
                doubts, play = mended_plainly(hall, start, log)
                self.assertEqual(doubts, doubted(hall, start, log))
                self.assertEqual(play, mended(hall, start, log))

    def test_smallest_and_least_of_all_tuples(self):
        dice = dice_of(502)
        for hall in (CHAIN, PAIR, RING, BENT):
            for _ in range(5):
                start = random_numbers(dice, hall, 2)
                log = tuple([
                    dice.choice([("pressed", dice.randrange(len(hall))), ("seen", 0, dice.randint(-2, 2)), LOST])
                    for _ in range(5)
                ])
                many = sum(entry[0] != "seen" for entry in log)
                plays = [play for play, _ in all_plays(hall, start, many) if len(play) == many]
                told = [index for index in range(5) if log[index] != LOST]
                tuples = [doubts for size in range(6) for doubts in combinations(told, size)]
                right = [doubts for doubts in tuples
                         if any(nearly_fits(hall, start, play, log, doubts) for play in plays)]
                self.assertEqual(right[0] if right else None, doubted(hall, start, log))

    def test_logs_that_fit_as_they_are(self):
        for hall, start, log in some_logs(503, wrong=0):
            if count_fits(hall, start, log) > 0:
                self.assertEqual((), doubted(hall, start, log))
                play = mended(hall, start, log)
                self.assertIs(True, fits(hall, start, play, log))
                self.assertEqual(plays_of(hall, start, log)[0], play)
        for hall in SOME_HALLS + [FULL]:
            self.assertEqual((), doubted(hall, (-1,) * len(hall), ()))
            self.assertEqual((), mended(hall, (-1,) * len(hall), ()))
        self.assertEqual((1, 0, 1), mended(CHAIN, (-1, -2), (("pressed", 1), LOST, LOST)))

    def test_logs_that_no_play_nearly_fits(self):
        for hall, start, log in (
            (CHAIN, (-1, -2), (LOST,) * 4), (CHAIN, (-1, -2), (("pressed", 0),) * 4), (LAMP, (0,), (("pressed", 0),)),
            (BENT, (-1, -1, -1), (("pressed", 0),) * 20), (LAMP, (-1,), (("seen", 0, 5), ("pressed", 0), LOST)),
            (NAMED["e", 8], (1,) * 8, (("pressed", 3),)), (hall_of(8), (-1,) * 8, (("pressed", 0),) * 9),
        ):
            self.assertIsNone(doubted(hall, start, log))
            self.assertIsNone(mended(hall, start, log))
        # As soon as there are presses enough, all entries beside lost ones may be doubted.
        self.assertEqual((0, 1, 2), doubted(hall_of(3), (-1, -1, 0), (("seen", 0, 5), ("pressed", 2), ("pressed", 2))))
        self.assertEqual((0, 1), mended(hall_of(3), (-1, -1, 0), (("seen", 0, 5), ("pressed", 2), ("pressed", 2))))

    def test_by_hand(self):
        # Either entry may be doubted, so the first one is.
        self.assertEqual((0,), doubted(CHAIN, (-1, 5), (("seen", 0, -2), ("seen", 0, -1))))
        self.assertEqual((0,), doubted(hall_of(2), (-1, -1), (("pressed", 0), ("seen", 0, -1))))
        self.assertEqual((1,), mended(hall_of(2), (-1, -1), (("pressed", 0), ("seen", 0, -1))))
        self.assertEqual((1,), doubted(hall_of(2), (-1, 1), (("pressed", 0), ("seen", 0, -1))))
        twice = (("pressed", 0), ("pressed", 0), ("seen", 0, 1))
        self.assertEqual(((0,), (1, 0)), (doubted(hall_of(2), (-1, -1), twice), mended(hall_of(2), (-1, -1), twice)))
        early = (("pressed", 0), ("seen", 0, 1), ("pressed", 0))
        self.assertEqual(((2,), (0, 1)), (doubted(hall_of(2), (-1, -1), early), mended(hall_of(2), (-1, -1), early)))
        # Two numbers that were seen speak against one press.
        log = (("pressed", 0), ("seen", 0, -1), ("seen", 1, 1))
        self.assertEqual(((0,), (1,)), (doubted(hall_of(2), (-1, -1), log), mended(hall_of(2), (-1, -1), log)))

    def test_long_logs(self):
        dice = dice_of(504)
        for hall in (PAIR, STEEP, RING, NAMED["f", 4], NAMED["a", 6], ring_of(6), NAMED["e", 8]):
            start = tuple([-dice.randint(1, 3) for _ in range(len(hall))])
            log, numbers, play = [], start, []
            for turn in range(17):
                lamp = dice.choice([lamp for lamp in range(len(hall)) if numbers[lamp] < 0])
                numbers = pressed_plainly(hall, numbers, lamp)
                play.append(lamp)
                log.append(LOST if turn in (2, 7, 11) else ("pressed", lamp))
            log += [("seen", lamp, numbers[lamp]) for lamp in range(min(3, len(hall)))]
            self.assertEqual((), doubted(hall, start, tuple(log)))
            log[13] = ("pressed", (play[13] + 1) % len(hall))
            doubts = doubted(hall, start, tuple(log))
            found = mended(hall, start, tuple(log))
            self.assertLessEqual(len(doubts), 1)
            self.assertTrue(nearly_fits(hall, start, found, log, doubts))
            self.assertEqual(17, len(found))

    def test_doubts_are_none_just_if_a_play_fits(self):
        for hall, start, log in some_logs(505, wrong=0.3):
            self.assertIs(first_against(hall, start, log) is None, doubted(hall, start, log) == ())
            many = sum(entry[0] != "seen" for entry in log)
            left = presses(hall, start) if hall in (CHAIN, BENT, LAMP) else None
            if left is not None:
                self.assertIs(left < many, doubted(hall, start, log) is None)

    def test_ends_of_mended_plays(self):
        self.assertEqual((0, 1, 0), mended(CHAIN, (-1, -2), (("pressed", 0), ("pressed", 0), ("pressed", 0))))
        self.assertEqual((2, 1), led_plainly(CHAIN, (-1, -2), (0, 1, 0)))
        self.assertEqual((1,), doubted(CHAIN, (-1, -2), (("pressed", 0), ("pressed", 0), ("pressed", 0))))

    def test_wrong_arguments(self):
        start, entries = (-1, -2, 3), (LOST, ("pressed", 1), ("seen", 0, 5))
        halls, numbers, logs = arguments.HALL, arguments.numbers(BENT), arguments.log(BENT, *entries)
        for function in (doubted, mended):
            try_wrongs(self, function, (BENT, start, entries), [halls, numbers, logs])


if __name__ == "__main__":
    unittest.main()
