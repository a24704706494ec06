"""Points 17 and 18: arrows, and how they are turned to units."""

import unittest
from itertools import product

from kaleidorooms import errors
from kaleidorooms.arrows import arrow_sum, arrows, greatest_arrow, is_arrow, shows_way, turned_arrow, way_to_unit
from kaleidorooms.halls import wings
from kaleidorooms.rooms import distance
from tests import arguments
from tests.helpers import (
    BENT, CHAIN, ENDING_HALLS, ENDLESS_HALLS, LAMP, NAMED, all_arrows, chain_of, dice_of, expect_error, hall_of,
    pressed_plainly, random_numbers, try_wrongs, turned_plainly, units_plainly,
)

COUNTS = {"a": lambda n: n * (n + 1) // 2, "b": lambda n: n * n, "c": lambda n: n * n, "d": lambda n: n * (n - 1)}
COUNTS.update({"e": {6: 36, 7: 63, 8: 120}.get, "f": {4: 24}.get, "g": {2: 6}.get})
HALLS = ENDING_HALLS + [NAMED[name] for name in (("f", 4), ("b", 4), ("c", 4), ("d", 5), ("a", 5))]
HALLS += [hall_of(2, (0, 1, 1, 3)), hall_of(2, (0, 1, 1, 2)), hall_of(5, (0, 3, 1, 2), (1, 4, 3, 1))]


class Arrows(unittest.TestCase):
    def test_against_all_turnings(self):
        for hall in HALLS + [NAMED["e", 6]]:
            known = all_arrows(hall)
            ups = [arrow for arrow in known if min(arrow) >= 0]
            self.assertEqual(sorted(ups, key=lambda arrow: (sum(arrow), arrow)), arrows(hall))
            self.assertEqual({tuple([-own for own in arrow]) for arrow in ups}, set(known) - set(ups))
            for arrow, way in known.items():
                self.assertIs(True, is_arrow(hall, arrow))
                self.assertEqual(way, way_to_unit(hall, arrow))
                self.assertTrue(shows_way(hall, arrow, way))
                for lamp in range(len(hall)):
                    self.assertEqual(turned_plainly(hall, arrow, lamp), turned_arrow(hall, arrow, lamp))
                if way:
                    self.assertFalse(shows_way(hall, arrow, way[:-1]))

    def test_is_arrow(self):
        for hall in (LAMP, CHAIN, BENT, NAMED["g", 2], NAMED["d", 4]):
            known = all_arrows(hall)
            most = 2 if len(hall) == 4 else 4
            for value in product(range(-most, most + 1), repeat=len(hall)):
                self.assertEqual(value in known, is_arrow(hall, value), value)

    def test_counts(self):
        for (letter, many), hall in NAMED.items():
            self.assertEqual(COUNTS[letter](many), len(arrows(hall)), (letter, many))
            self.assertEqual(COUNTS[letter](many), distance(hall, (-1,) * many))

    def test_two_wings(self):
        hall = hall_of(4, (0, 2, 1, 1), (1, 3, 1, 2))
        self.assertEqual(3 + 4, len(arrows(hall)))
        self.assertFalse(is_arrow(hall, (1, 1, 0, 0)))
        self.assertEqual((1, 0, 1, 0), greatest_arrow(hall, (0, 2)))
        self.assertEqual((0, 2, 0, 1), greatest_arrow(hall_of(4, (0, 2, 1, 1), (1, 3, 2, 1)), (1, 3)))

    def test_directions_of_pushes(self):
        self.assertEqual([(0, 1), (1, 0), (1, 1), (2, 1)], arrows(hall_of(2, (0, 1, 2, 1))))
        self.assertEqual([(0, 1), (1, 0), (1, 1), (1, 2)], arrows(hall_of(2, (0, 1, 1, 2))))
        self.assertEqual([(0, 1), (1, 0), (1, 1), (2, 1), (3, 1), (3, 2)], arrows(NAMED["g", 2]))

    def test_greatest_arrows(self):
        for hall in HALLS + list(NAMED.values()):
            for wing in wings(hall):
                beside = set(range(len(hall))) - set(wing)
                listed = [arrow for arrow in arrows(hall) if all(arrow[lamp] == 0 for lamp in beside)]
                most = max(map(sum, listed))
                self.assertEqual([arrow for arrow in listed if sum(arrow) == most], [greatest_arrow(hall, wing)])
        self.assertEqual((2, 4, 6, 5, 4, 3, 2, 3), greatest_arrow(NAMED["e", 8], tuple(range(8))))

    def test_ways(self):
        hall = NAMED["e", 8]
        for arrow in arrows(hall):
            down = tuple([-own for own in arrow])
            for value in (arrow, down):
                way = way_to_unit(hall, value)
                self.assertTrue(shows_way(hall, value, way))
                self.assertTrue(shows_way(hall, value, way + way[::-1] + way))
        self.assertEqual(28, max(len(way_to_unit(hall, arrow)) for arrow in arrows(hall)))
        self.assertEqual((), way_to_unit(LAMP, (1,)))
        self.assertEqual((0,), way_to_unit(LAMP, (-1,)))

    def test_shows_way_of_any_value(self):
        arrow = (2, 2, 1)
        for value in [(0, 1), (0, 1, 2), (1, 0, 0, 1, 0, 0, 0, 1), (0, 1) + (0,) * 5000, (1, 1) * 50 + (0, 1)]:
            expected = arrow
            for lamp in value:
                expected = turned_plainly(BENT, expected, lamp)
            self.assertEqual(expected in units_plainly(BENT), shows_way(BENT, arrow, value))
        values = arguments.ODD_VALUES + [[0, 1], (0, True), (False, 1), (0, "1"), (0, 3), (0, -2), (0, (1,)), "01"]
        for value in values + [(0, None), ((0, 1),), {0: 1}, range(2), (10 ** 30,), (0, 1, None)]:
            self.assertIs(False, shows_way(BENT, arrow, value), value)
        self.assertIs(True, shows_way(BENT, arrow, (0, 1)))
        self.assertIs(True, shows_way(BENT, (0, 1, 0), ()))
        self.assertIs(False, shows_way(BENT, (0, -1, 0), ()))

    def test_is_arrow_of_any_value(self):
        values = [[0, 1, 0], (0, True, 0), (0, 1), (0, 1, 0, 0), (0, "1", 0), (0, 0, 0), (0, 2, 0), (False, 1, False)]
        values += [(1, -1, 0), {0: 1}, "010", ((0, 1, 0),), (0, [1], 0), (10 ** 40, 0, 0)]
        for value in arguments.ODD_VALUES + values:
            self.assertIs(False, is_arrow(BENT, value), value)
        self.assertIs(True, is_arrow(BENT, (0, 1, 0)))

    def test_sums(self):
        dice = dice_of(17)
        for hall in HALLS:
            for arrow in arrows(hall):
                numbers = random_numbers(dice, hall, 10 ** 6)
                expected = sum(own * number for own, number in zip(arrow, numbers))
                self.assertEqual(expected, arrow_sum(hall, arrow, numbers))
                for lamp in range(len(hall)):
                    behind = pressed_plainly(hall, numbers, lamp)
                    turned = turned_arrow(hall, arrow, lamp)
                    self.assertEqual(arrow_sum(hall, turned, numbers), arrow_sum(hall, arrow, behind))

    def test_returned_lists_are_new(self):
        arrows(CHAIN).clear()
        self.assertEqual([(0, 1), (1, 0), (1, 1)], arrows(CHAIN))

    def test_not_ending(self):
        for hall in ENDLESS_HALLS + [chain_of(8, (0, 7, 1, 1)), hall_of(3, (0, 1, 2, 2))]:
            for function, more in (
                (arrows, []), (is_arrow, [(1, 0)]), (is_arrow, [None]), (turned_arrow, [None, None]),
                (arrow_sum, [None, None]), (way_to_unit, [None]), (shows_way, [None, None]), (greatest_arrow, [None]),
            ):
                expect_error(self, function, [hall] + more, errors.NotEnding)

    def test_wrong_arguments(self):
        hall = hall_of(4, (0, 1, 1, 1), (2, 3, 0, 0))
        some = arguments.arrow(hall, (1, -1, 0, 0), (1, 0, 1, 0), (0, 0, 1, 1), (0, 0, 2, 0))
        good = (-1, -1, 0, 0)
        try_wrongs(self, arrows, (hall,), [arguments.NOT_ENDING])
        try_wrongs(self, is_arrow, (hall, None), [arguments.NOT_ENDING, []])
        try_wrongs(self, turned_arrow, (hall, good, 0), [arguments.NOT_ENDING, some, arguments.lamp(hall)])
        try_wrongs(self, arrow_sum, (hall, good, (1,) * 4), [arguments.NOT_ENDING, some, arguments.numbers(hall)])
        try_wrongs(self, way_to_unit, (hall, good), [arguments.NOT_ENDING, some])
        try_wrongs(self, shows_way, (hall, good, None), [arguments.NOT_ENDING, some, []])
        try_wrongs(self, greatest_arrow, (hall, (0, 1)), [arguments.NOT_ENDING, arguments.wing(hall)])


if __name__ == "__main__":
    unittest.main()
