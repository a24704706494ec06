"""Points 29 and 30: suites behind open walls, and rooms split by them."""

import unittest

from kaleidorooms import errors
from kaleidorooms.halls import part_of
from kaleidorooms.heights import count_rooms
from kaleidorooms.rooms import distance, is_room
from kaleidorooms.suites import farthest, joined, nearest, split, suite
from tests import arguments
from tests.helpers import (
    BENT, CHAIN, ENDLESS_HALLS, FULL, LAMP, NAMED, Wrong, dice_of, expect_error, hall_of, led_plainly, lots_of_lamps,
    rooms_to, suite_plainly, try_wrongs, words_to_rooms,
)

SMALL = [LAMP, CHAIN, NAMED["b", 2], NAMED["g", 2], hall_of(2, (0, 1, 1, 3)), hall_of(3, (0, 2, 2, 1)), NAMED["a", 3]]
SMALL += [hall_of(2), BENT]


class Suites(unittest.TestCase):
    def test_against_all_walls(self):
        for hall in SMALL:
            far = rooms_to(hall, 100)
            for lamps in lots_of_lamps(hall):
                for room in far:
                    listed = sorted(suite_plainly(hall, room, lamps), key=lambda one: (far[one], one))
                    self.assertEqual(listed, suite(hall, room, lamps))
                    self.assertEqual(listed[0], nearest(hall, room, lamps))
                    self.assertEqual(listed[-1], farthest(hall, room, lamps))

    def test_signs_in_nearest_and_farthest_rooms(self):
        dice = dice_of(30)
        for hall in (NAMED["e", 8], NAMED["f", 4], NAMED["c", 6]):
            for _ in range(20):
                room = led_plainly(hall, (1,) * len(hall), dice.choices(range(len(hall)), k=40))
                lamps = tuple([lamp for lamp in range(len(hall)) if dice.random() < 0.6])
                near, far = nearest(hall, room, lamps), farthest(hall, room, lamps)
                self.assertTrue(all(near[lamp] > 0 > far[lamp] for lamp in lamps))
                self.assertEqual((near, far), (nearest(hall, far, lamps), farthest(hall, near, lamps)))
                self.assertLessEqual(distance(hall, near), distance(hall, room))

    def test_no_lamps_and_all_lamps(self):
        for hall in (CHAIN, BENT, NAMED["e", 8]):
            everyone = tuple(range(len(hall)))
            first, last = (1,) * len(hall), (-1,) * len(hall)
            room = led_plainly(hall, first, (1, 0, 1))
            self.assertEqual([room], suite(hall, room, ()))
            self.assertEqual((room, room), (nearest(hall, room, ()), farthest(hall, room, ())))
            self.assertEqual((first, last), (nearest(hall, room, everyone), farthest(hall, room, everyone)))
            self.assertEqual((first, room), split(hall, room, everyone))
            self.assertEqual(room, joined(hall, first, room, everyone))

    def test_just_2000(self):
        hall = NAMED["e", 8]
        lamps = (1, 2, 3, 4, 7)
        self.assertEqual(1920, count_rooms(part_of(hall, lamps)))
        self.assertEqual(1920, len(suite(hall, (-1,) * 8, lamps)))
        for many in ((0, 1, 2, 3, 4, 5), (1, 2, 3, 4, 6, 7), tuple(range(8))):
            expect_error(self, suite, [hall, (-1,) * 8, many], errors.TooMany, most=2000)
            expect_error(self, suite, [hall, (1,) * 8, many], errors.TooMany, most=2000)
            self.assertEqual(-1, farthest(hall, (1,) * 8, many)[many[0]])
        expect_error(self, suite, [hall, (-1,) * 8, [0, 1]], errors.BadLamps)

    def test_split_and_joined(self):
        for hall in SMALL:
            far = rooms_to(hall, 100)
            for lamps in lots_of_lamps(hall)[1:]:
                part = part_of(hall, lamps)
                for room, at in far.items():
                    near, rest = split(hall, room, lamps)
                    self.assertEqual(nearest(hall, room, lamps), near)
                    self.assertTrue(is_room(part, rest))
                    self.assertEqual(at, far[near] + distance(part, rest))
                    word = words_to_rooms(part)[rest]
                    self.assertEqual(room, led_plainly(hall, near, [lamps[letter] for letter in word]))
                    self.assertEqual(room, joined(hall, near, rest, lamps))

    def test_joined_rooms_are_all(self):
        for hall, lamps in ((BENT, (0, 2)), (BENT, (1, 2)), (NAMED["a", 3], (0, 1)), (NAMED["b", 2], (1,))):
            rests = words_to_rooms(part_of(hall, lamps))
            far = rooms_to(hall, 100)
            nears = [room for room in far if all(room[lamp] > 0 for lamp in lamps)]
            found = {joined(hall, near, rest, lamps) for near in nears for rest in rests}
            self.assertEqual(set(far), found)
            self.assertEqual(len(far), len(nears) * len(rests))

    def test_big_halls(self):
        hall = NAMED["e", 8]
        lamps = (0, 2, 3, 4, 5, 7)
        dice = dice_of(31)
        for _ in range(10):
            room = led_plainly(hall, (1,) * 8, dice.choices(range(8), k=60))
            near, rest = split(hall, room, lamps)
            self.assertEqual(distance(hall, room), distance(hall, near) + distance(part_of(hall, lamps), rest))
            self.assertEqual(room, joined(hall, near, rest, lamps))
        near, rest = split(hall, (-1,) * 8, lamps)
        self.assertEqual((-1,) * 6, rest)
        self.assertEqual((-1,) * 8, joined(hall, near, rest, lamps))

    def test_returned_lists_are_new(self):
        suite(CHAIN, (1, 1), (0,)).clear()
        self.assertEqual([(1, 1), (-1, 2)], suite(CHAIN, (1, 1), (0,)))

    def test_errors_of_joined(self):
        hall = NAMED["a", 3]
        near, rest, lamps = (1, 1, -3), (-1, -1), (0, 1)
        self.assertEqual((-1, -1, -1), joined(hall, near, rest, lamps))
        part = part_of(hall, lamps)
        rests = [wrong.value for wrong in arguments.room(part, (0, 1), (2, 1), (1, 1, 1), (-10 ** 30, 1))]
        not_nearest = [Wrong((-1, 2, 1), errors.NotNearest), Wrong((-1, -1, -1), errors.NotNearest)]
        nears = arguments.room(hall, (1, 1, 0), (2, 1, 1))
        for wrong in nears:
            expect_error(self, joined, [hall, wrong.value, rest, lamps], errors.BadRoom)
            expect_error(self, joined, [hall, wrong.value, None, None], errors.BadRoom)
        for wrong in arguments.part_lamps(hall):
            for value in (near, (-1, 2, 1)):
                expect_error(self, joined, [hall, value, rest, wrong.value], errors.BadLamps)
                expect_error(self, joined, [hall, value, None, wrong.value], errors.BadLamps)
        for wrong in not_nearest:
            expect_error(self, joined, [hall, wrong.value, rest, lamps], errors.NotNearest)
            expect_error(self, joined, [hall, wrong.value, None, lamps], errors.NotNearest)
        for value in rests:
            expect_error(self, joined, [hall, near, value, lamps], errors.BadRest)
        # A room of the whole hall is none of the part.
        expect_error(self, joined, [hall, near, (1, 1, 1), lamps], errors.BadRest)
        expect_error(self, joined, [hall, (1, 1, 1), (-1, 2, 1), lamps], errors.BadRest)
        for hall in ENDLESS_HALLS + [FULL]:
            expect_error(self, joined, [hall, None, None, None], errors.NotEnding)
        for wrong in arguments.HALL:
            expect_error(self, joined, [wrong.value, None, None, None], errors.BadHall)

    def test_wrong_arguments(self):
        hall = NAMED["a", 3]
        rooms = arguments.room(hall, (1, 1, 0), (2, 1, 1))
        some = arguments.part_lamps(hall)
        lamps = [wrong for wrong in some if wrong.value != ()]
        self.assertEqual(len(some) - 1, len(lamps))
        for function in (suite, nearest, farthest):
            try_wrongs(self, function, (hall, (-1, -1, -1), (0, 2)), [arguments.NOT_ENDING, rooms, lamps])
        try_wrongs(self, split, (hall, (-1, -1, -1), (0, 2)), [arguments.NOT_ENDING, rooms, some])
        expect_error(self, split, [hall, (1, 1, 1), ()], errors.BadLamps)
        for hall in ENDLESS_HALLS + [FULL]:
            for function in (suite, nearest, farthest, split):
                expect_error(self, function, [hall, None, None], errors.NotEnding)


if __name__ == "__main__":
    unittest.main()
