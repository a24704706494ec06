"""Points 26 and 27: all rooms within a room, and what two rooms have in common."""

import unittest
from itertools import product

from kaleidorooms import errors
from kaleidorooms.belows import below, between, common_above, common_within, evens_less_odds, series
from kaleidorooms.rooms import distance
from tests import arguments
from tests.helpers import (
    BENT, CHAIN, ENDLESS_HALLS, FULL, LAMP, NAMED, expect_error, hall_of, led_plainly, rooms_by_letters, rooms_to,
    try_wrongs, within_plainly,
)

SMALL = [LAMP, CHAIN, NAMED["b", 2], NAMED["g", 2], hall_of(2, (0, 1, 1, 3)), hall_of(3, (0, 2, 2, 1)), NAMED["a", 3]]
SMALL += [hall_of(2), BENT]
BIG = NAMED["e", 8]
FIRST, LAST = (1,) * 8, (-1,) * 8
# 1656 rooms lie within the room of the one word, more than 2000 within that of the other one.
JUST_FEW = led_plainly(BIG, FIRST, (0, 1, 2, 3, 4, 5, 6, 7, 0, 1, 2, 3))
TOO_MANY = led_plainly(BIG, FIRST, (0, 1, 2, 3, 4, 5, 6, 7, 0, 1, 2, 3, 4))


class Belows(unittest.TestCase):
    def test_below_and_series(self):
        for hall in SMALL:
            far = rooms_to(hall, 100)
            for room, inside in within_plainly(hall).items():
                expected = sorted(inside, key=lambda one: (far[one], one))
                self.assertEqual(expected, below(hall, room))
                distances = [far[one] for one in inside]
                self.assertEqual(tuple([distances.count(at) for at in range(far[room] + 1)]), series(hall, room))

    def test_between(self):
        for hall in SMALL:
            inside, far = within_plainly(hall), rooms_to(hall, 100)
            for room, other in product(inside, repeat=2):
                listed = [one for one in inside[other] if room in inside[one]]
                self.assertEqual(sorted(listed, key=lambda one: (far[one], one)), between(hall, room, other))
                difference = sum(1 - far[one] % 2 * 2 for one in listed)
                self.assertEqual(difference, evens_less_odds(hall, room, other))
                if room != other:
                    self.assertEqual(0, difference)

    def test_a_room_and_itself(self):
        self.assertEqual(1, evens_less_odds(CHAIN, (1, 1), (1, 1)))
        self.assertEqual(-1, evens_less_odds(CHAIN, (-1, 2), (-1, 2)))
        self.assertEqual(1, evens_less_odds(CHAIN, (-2, 1), (-2, 1)))
        self.assertEqual([(-1, 2)], between(CHAIN, (-1, 2), (-1, 2)))
        self.assertEqual([], between(CHAIN, (-1, -1), (-1, 2)))
        self.assertEqual([(1, 1)], below(CHAIN, (1, 1)))
        self.assertEqual((1,), series(CHAIN, (1, 1)))

    def test_common(self):
        for hall in SMALL:
            inside = within_plainly(hall)
            for one, other in product(inside, repeat=2):
                both = inside[one] & inside[other]
                greatest = [room for room in both if not any(room in inside[at] for at in both if at != room)]
                self.assertEqual(sorted(greatest), common_within(hall, one, other))
                over = [room for room in inside if one in inside[room] and other in inside[room]]
                least = [room for room in over if not any(at in inside[room] for at in over if at != room)]
                self.assertEqual(sorted(least), common_above(hall, one, other))

    def test_common_of_two(self):
        self.assertEqual([(-1, 2), (2, -1)], common_within(CHAIN, (-2, 1), (1, -2)))
        self.assertEqual([(-2, 1)], common_within(CHAIN, (-2, 1), (-2, 1)))
        self.assertEqual([(1, 1)], common_within(CHAIN, (-1, 2), (2, -1)))
        self.assertEqual([(1, 1)], common_above(CHAIN, (1, 1), (1, 1)))
        self.assertEqual([(-1, -1)], common_above(CHAIN, (-2, 1), (1, -2)))

    def test_a_hall_of_many_rooms(self):
        inside = rooms_by_letters(BIG, (0, 1, 2, 3, 4, 5, 6, 7, 0, 1, 2, 3))
        listed = below(BIG, JUST_FEW)
        self.assertEqual((1656, 1656, 1656), (len(inside), len(listed), sum(series(BIG, JUST_FEW))))
        self.assertEqual(inside, set(listed))
        self.assertEqual(sorted(listed, key=lambda room: (distance(BIG, room), room)), listed)
        self.assertEqual(listed, between(BIG, FIRST, JUST_FEW))
        self.assertEqual(0, evens_less_odds(BIG, FIRST, JUST_FEW))
        self.assertEqual([JUST_FEW], common_within(BIG, JUST_FEW, JUST_FEW))
        opposite = tuple([-number for number in JUST_FEW])
        self.assertEqual([opposite], common_above(BIG, opposite, opposite))
        self.assertEqual([LAST], common_above(BIG, opposite, LAST))

    def test_just_2000(self):
        chain = NAMED["a", 7]
        word = (0, 6, 5, 4, 2, 5, 1, 0, 3, 6, 2, 3, 4)
        room = led_plainly(chain, (1,) * 7, word)
        self.assertEqual(rooms_by_letters(chain, word), set(below(chain, room)))
        self.assertEqual((2000, 2000), (len(below(chain, room)), sum(series(chain, room))))
        # There are 1920 rooms in this hall, and 3840 in that with one lamp more beside.
        hall = NAMED["d", 5]
        self.assertEqual(1920, len(below(hall, (-1,) * 5)))
        beside = hall_of(6, (0, 1, 1, 1), (1, 2, 1, 1), (2, 3, 1, 1), (2, 4, 1, 1))
        self.assertEqual(1920, len(below(beside, (-1,) * 5 + (1,))))
        expect_error(self, below, [beside, (-1,) * 6], errors.TooMany, most=2000)

    def test_too_many(self):
        self.assertGreater(len(rooms_by_letters(BIG, (0, 1, 2, 3, 4, 5, 6, 7, 0, 1, 2, 3, 4))), 2000)
        opposite = tuple([-number for number in TOO_MANY])
        for far in (TOO_MANY, LAST):
            expect_error(self, below, [BIG, far], errors.TooMany, most=2000)
            expect_error(self, series, [BIG, far], errors.TooMany, most=2000)
            for function in (between, evens_less_odds):
                expect_error(self, function, [BIG, FIRST, far], errors.TooMany, most=2000)
                expect_error(self, function, [BIG, far, far], errors.TooMany, most=2000)
            expect_error(self, common_within, [BIG, FIRST, far], errors.TooMany, most=2000)
            expect_error(self, common_within, [BIG, far, FIRST], errors.TooMany, most=2000)
        for near in (opposite, FIRST):
            expect_error(self, common_above, [BIG, near, LAST], errors.TooMany, most=2000)
            expect_error(self, common_above, [BIG, LAST, near], errors.TooMany, most=2000)
        # Of between's room no more is asked than that it is one.
        self.assertEqual([], between(BIG, LAST, FIRST))
        self.assertEqual(0, evens_less_odds(BIG, LAST, FIRST))

    def test_too_many_is_told_last(self):
        for function in (between, evens_less_odds, common_within):
            expect_error(self, function, [BIG, None, LAST], errors.BadRoom)
            expect_error(self, function, [BIG, LAST, None], errors.BadRoom)
        expect_error(self, common_above, [BIG, FIRST, None], errors.BadRoom)
        expect_error(self, common_above, [BIG, None, FIRST], errors.BadRoom)

    def test_returned_lists_are_new(self):
        for function, more in ((below, [(-1, -1)]), (between, [(1, 1), (-1, -1)]), (common_within, [(-2, 1), (1, -2)])):
            before = list(function(CHAIN, *more))
            function(CHAIN, *more).clear()
            self.assertEqual(before, function(CHAIN, *more))

    def test_wrong_arguments(self):
        rooms = arguments.room(CHAIN, (0, 1), (2, 1), (-10 ** 30, 1))
        for function in (below, series):
            try_wrongs(self, function, (CHAIN, (-1, 2)), [arguments.NOT_ENDING, rooms])
            for hall in ENDLESS_HALLS + [FULL]:
                expect_error(self, function, [hall, None], errors.NotEnding)
        for function in (between, evens_less_odds, common_within, common_above):
            try_wrongs(self, function, (CHAIN, (-1, 2), (-1, -1)), [arguments.NOT_ENDING, rooms, rooms])
            for hall in ENDLESS_HALLS + [FULL]:
                expect_error(self, function, [hall, None, None], errors.NotEnding)


if __name__ == "__main__":
    unittest.main()
