"""Point 25: covers, rising and opposite rooms."""

import unittest
from itertools import product

from kaleidorooms import errors
from kaleidorooms.rising import covered, covers, opposite, rising, shows_rising
from kaleidorooms.rooms import distance, is_room
from kaleidorooms.within import is_within
from tests import arguments
from tests.helpers import (
    BENT, CHAIN, ENDLESS_HALLS, LAMP, NAMED, dice_of, expect_error, hall_of, led_plainly, rooms_to, try_wrongs,
    within_plainly,
)

SMALL = [LAMP, CHAIN, NAMED["b", 2], NAMED["g", 2], hall_of(2, (0, 1, 1, 3)), hall_of(3, (0, 2, 2, 1)), NAMED["a", 3]]
SMALL += [hall_of(2), BENT]


def all_risings(under, room, other):
    """All tuples of rooms from a room to another one, each in covers of the next one."""
    if room == other:
        return [(room,)]
    return [way + (other,) for near in under[other] for way in all_risings(under, room, near)]


class Rising(unittest.TestCase):
    def test_covers_and_covered(self):
        for hall in SMALL:
            inside, far = within_plainly(hall), rooms_to(hall, 100)
            for room in inside:
                under = sorted(near for near in inside[room] if far[near] == far[room] - 1)
                over = sorted(one for one in inside if room in inside[one] and far[one] == far[room] + 1)
                self.assertEqual(under, covers(hall, room))
                self.assertEqual(over, covered(hall, room))

    def test_first_and_last_rooms(self):
        for hall in NAMED.values():
            first, last = (1,) * len(hall), (-1,) * len(hall)
            self.assertEqual([], covers(hall, first))
            self.assertEqual([], covered(hall, last))
            beside = sorted(led_plainly(hall, first, [lamp]) for lamp in range(len(hall)))
            self.assertEqual(beside, covered(hall, first))
            self.assertEqual(len(hall), len(covers(hall, last)))

    def test_opposite(self):
        for hall in SMALL + [NAMED["d", 4], NAMED["e", 8]]:
            dice = dice_of(28)
            for _ in range(20):
                room = led_plainly(hall, (1,) * len(hall), dice.choices(range(len(hall)), k=9))
                turned = tuple([-number for number in room])
                self.assertEqual(turned, opposite(hall, room))
                self.assertTrue(is_room(hall, turned))
                self.assertEqual(distance(hall, (-1,) * len(hall)), distance(hall, room) + distance(hall, turned))

    def test_opposites_turn_about(self):
        for hall in (CHAIN, NAMED["g", 2], BENT):
            for room, other in product(rooms_to(hall, 100), repeat=2):
                about = is_within(hall, opposite(hall, other), opposite(hall, room))
                self.assertEqual(is_within(hall, room, other), about)

    def test_rising(self):
        for hall in SMALL[:-1]:
            inside, far = within_plainly(hall), rooms_to(hall, 100)
            under = {room: [near for near in inside[room] if far[near] == far[room] - 1] for room in inside}
            for room, other in product(inside, repeat=2):
                told = rising(hall, room, other)
                ways = all_risings(under, room, other) if room in inside[other] else []
                self.assertEqual(min(ways) if ways else None, told)
                for way in ways[:20]:
                    self.assertTrue(shows_rising(hall, room, other, way))
                    self.assertFalse(shows_rising(hall, room, other, list(way)))
                    self.assertFalse(shows_rising(hall, room, other, way[1:]))
                    self.assertFalse(shows_rising(hall, room, other, way + (other,)))

    def test_risings_of_big_halls(self):
        for name in (("e", 8), ("f", 4), ("b", 6)):
            hall = NAMED[name]
            first, last = (1,) * len(hall), (-1,) * len(hall)
            way = rising(hall, first, last)
            self.assertEqual(distance(hall, last) + 1, len(way))
            self.assertTrue(shows_rising(hall, first, last, way))
            self.assertFalse(shows_rising(hall, first, last, way[:5] + way[6:]))
            self.assertIsNone(rising(hall, last, first))
            self.assertEqual((last,), rising(hall, last, last))
            for under, over in zip(way, way[1:]):
                self.assertIn(under, covers(hall, over))
                self.assertIn(over, covered(hall, under))

    def test_shows_rising_of_any_value(self):
        first, near, far, last = (1, 1), (2, -1), (1, -2), (-1, -1)
        self.assertIs(True, shows_rising(CHAIN, first, last, (first, near, far, last)))
        self.assertIs(True, shows_rising(CHAIN, first, first, (first,)))
        values = [(), (first,), (last,), (first, last), (first, far, near, last), (first, near, far), (near, far, last)]
        values += [[first, near, far, last], ((True, True), near, far, last), (list(first), near, far, last)]
        values += [(first, near, near, far, last), (first, (0, 0), far, last), (first, near, (10 ** 30, 1), last)]
        values += [(first, None, far, last), (first, "near", far, last), (first, (2, -1, 0), far, last), {first: last}]
        values += [(first, near, far, (-1, None)), (first, near, far, last, None), (first, 2, far, last)]
        for value in arguments.ODD_VALUES + values:
            self.assertIs(False, shows_rising(CHAIN, first, last, value), value)
        for value in (((True, 1),), ([1, 1],), (first, first), first):
            self.assertIs(False, shows_rising(CHAIN, first, first, value), value)
        self.assertIs(False, shows_rising(CHAIN, last, first, (last, far, near, first)))
        # Each one must be one nearer, and within.
        self.assertIs(False, shows_rising(NAMED["a", 3], (-1, 2, 1), (2, 1, -2), ((-1, 2, 1), (2, 1, -2))))

    def test_returned_lists_are_new(self):
        covers(CHAIN, (-1, -1)).clear()
        covered(CHAIN, (1, 1)).clear()
        self.assertEqual([(-2, 1), (1, -2)], covers(CHAIN, (-1, -1)))
        self.assertEqual([(-1, 2), (2, -1)], covered(CHAIN, (1, 1)))

    def test_wrong_arguments(self):
        rooms = arguments.room(CHAIN, (0, 1), (2, 1), (-10 ** 30, 1))
        for function in (covers, covered, opposite):
            try_wrongs(self, function, (CHAIN, (-1, 2)), [arguments.NOT_ENDING, rooms])
        try_wrongs(self, rising, (CHAIN, (-1, 2), (-1, -1)), [arguments.NOT_ENDING, rooms, rooms])
        try_wrongs(self, shows_rising, (CHAIN, (-1, 2), (-1, -1), None), [arguments.NOT_ENDING, rooms, rooms, []])
        for hall in ENDLESS_HALLS:
            for function, more in (
                (covers, [None]), (covered, [None]), (opposite, [None]), (rising, [None, None]),
                (shows_rising, [None, None, None]),
            ):
                expect_error(self, function, [hall] + more, errors.NotEnding)


if __name__ == "__main__":
    unittest.main()
