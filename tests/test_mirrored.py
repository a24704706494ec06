"""Point 22: mirror words, mirror rooms and the arrows that plays press."""

import unittest

from kaleidorooms import errors
from kaleidorooms.arrows import arrow_sum, arrows
from kaleidorooms.mirrored import arrows_pressed, mirror_room, mirror_word
from kaleidorooms.plays import behind, end, first_play
from tests import arguments
from tests.helpers import (
    BENT, CHAIN, ENDING_HALLS, ENDLESS_HALLS, LAMP, NAMED, all_arrows, all_plays, dice_of, expect_error, hall_of,
    led_plainly, random_numbers, try_wrongs, turned_plainly, units_plainly,
)

HALLS = ENDING_HALLS + [NAMED["f", 4], NAMED["c", 4], hall_of(2, (0, 1, 1, 3)), hall_of(4, (0, 2, 1, 1), (1, 3, 1, 2))]


class Mirrored(unittest.TestCase):
    def test_all_arrows(self):
        for hall in HALLS:
            ways = all_arrows(hall)
            first = (1,) * len(hall)
            for arrow in arrows(hall):
                unit = arrow
                for lamp in ways[arrow]:
                    unit = turned_plainly(hall, unit, lamp)
                lamp = units_plainly(hall).index(unit)
                word = ways[arrow] + (lamp,) + ways[arrow][::-1]
                self.assertEqual(word, mirror_word(hall, arrow))
                self.assertEqual(led_plainly(hall, first, word), mirror_room(hall, arrow))

    def test_mirror_rooms_of_the_first_room(self):
        for hall in HALLS:
            found = [mirror_room(hall, arrow) for arrow in arrows(hall)]
            self.assertEqual(len(found), len(set(found)))
            for room, arrow in zip(found, arrows(hall)):
                # Over a mirror the sum by its arrow turns its sign.
                self.assertEqual(-sum(arrow), arrow_sum(hall, arrow, room))
                self.assertEqual((1,) * len(hall), led_plainly(hall, room, mirror_word(hall, arrow)))

    def test_words_of_units_and_of_far_arrows(self):
        self.assertEqual((0,), mirror_word(LAMP, (1,)))
        self.assertEqual((-1,), mirror_room(LAMP, (1,)))
        for hall in NAMED.values():
            for lamp, unit in enumerate(units_plainly(hall)):
                self.assertEqual((lamp,), mirror_word(hall, unit))
        hall, greatest = NAMED["e", 8], (2, 4, 6, 5, 4, 3, 2, 3)
        word = mirror_word(hall, greatest)
        self.assertEqual(57, len(word))
        self.assertEqual(word[::-1], word)
        self.assertEqual(led_plainly(hall, (1,) * 8, word), mirror_room(hall, greatest))

    def test_arrows_of_all_plays(self):
        dice = dice_of(22)
        for hall in [LAMP, CHAIN, NAMED["b", 2], NAMED["g", 2], BENT, hall_of(3, (0, 2, 1, 2))]:
            for _ in range(3):
                start = random_numbers(dice, hall, 4)
                plays = all_plays(hall, start, 100)
                for play, numbers in dice.sample(plays, min(60, len(plays))):
                    self.check_play(hall, start, play, min(numbers) >= 0)

    def check_play(self, hall, start, play, is_end):
        told = arrows_pressed(hall, start, play)
        self.assertEqual((tuple, len(play)), (told.__class__, len(told)))
        for place, arrow in enumerate(told):
            for lamp in play[:place]:
                arrow = turned_plainly(hall, arrow, lamp)
            self.assertEqual(units_plainly(hall)[play[place]], arrow)
            self.assertIn(told[place], arrows(hall))
            self.assertLess(arrow_sum(hall, told[place], start), 0)
            number = behind(hall, start, play[:place])[play[place]]
            self.assertEqual(number, arrow_sum(hall, told[place], start))
        self.assertEqual(len(told), len(set(told)))
        below = [arrow for arrow in arrows(hall) if arrow_sum(hall, arrow, start) < 0]
        self.assertEqual(is_end, sorted(below) == sorted(told))

    def test_empty_and_long_plays(self):
        self.assertEqual((), arrows_pressed(CHAIN, (-1, -2), ()))
        self.assertEqual((), arrows_pressed(CHAIN, (0, 0), ()))
        hall = NAMED["e", 8]
        start = (-3,) * 8
        play = first_play(hall, start)
        self.assertEqual((3,) * 8, end(hall, start))
        self.assertEqual(arrows(hall), sorted(arrows_pressed(hall, start, play), key=lambda arrow: (sum(arrow), arrow)))

    def test_wrong_arguments(self):
        hall = hall_of(4, (0, 1, 1, 1), (2, 3, 0, 0))
        down = [(-1, 0, 0, 0), (-1, -1, 0, 0), (0, 0, 0, -1)]
        some = arguments.arrow(hall, (1, -1, 0, 0), (1, 0, 1, 0), (0, 0, 1, 1), *down)
        start = (-1, -2, 0, 3)
        plays = arguments.play(hall, start, (0, 1))
        try_wrongs(self, mirror_word, (hall, (1, 1, 0, 0)), [arguments.NOT_ENDING, some])
        try_wrongs(self, mirror_room, (hall, (1, 1, 0, 0)), [arguments.NOT_ENDING, some])
        try_wrongs(
            self, arrows_pressed, (hall, start, (0, 1)), [arguments.NOT_ENDING, arguments.numbers(hall), plays],
        )
        expect_error(self, arrows_pressed, [CHAIN, (-1, -2), (0, 1, 0, 1)], errors.BadPlay, index=3)
        for hall in ENDLESS_HALLS:
            expect_error(self, mirror_word, [hall, None], errors.NotEnding)
            expect_error(self, mirror_room, [hall, (1, 0)], errors.NotEnding)
            expect_error(self, arrows_pressed, [hall, None, None], errors.NotEnding)


if __name__ == "__main__":
    unittest.main()
