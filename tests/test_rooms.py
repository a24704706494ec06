"""Point 10: rooms."""

import unittest
from itertools import product

from kaleidorooms import errors
from kaleidorooms.plays import end, presses
from kaleidorooms.rooms import distance, first_room, is_room, through, walls_home
from tests import arguments
from tests.helpers import (
    BENT, CHAIN, FULL, LAMP, MIXED, NAMED, PAIR, RING, SOME_HALLS, STEEP, dice_of, expect_error, led_plainly,
    pressed_plainly, rooms_to, try_wrongs, wrongs,
)


class Rooms(unittest.TestCase):
    def test_first_room(self):
        for hall in SOME_HALLS + [FULL]:
            self.assertEqual((1,) * len(hall), first_room(hall))

    def test_all_near_rooms(self):
        for hall in SOME_HALLS:
            known = rooms_to(hall, 5)
            for room, far in known.items():
                self.assertIs(True, is_room(hall, room))
                self.assertEqual(far, distance(hall, room))
                self.assertEqual(far, presses(hall, room))
                self.assertEqual(first_room(hall), end(hall, room))
                nearer = []
                for lamp in range(len(hall)):
                    beyond = pressed_plainly(hall, room, lamp)
                    self.assertEqual(beyond, through(hall, room, lamp))
                    self.assertEqual(room, through(hall, beyond, lamp))
                    if known.get(beyond, far + 1) < far:
                        nearer.append(lamp)
                self.assertEqual(tuple(nearer), walls_home(hall, room))

    def test_all_numbers_that_are_small(self):
        for hall, far, most in ((LAMP, 3, 1), (CHAIN, 4, 3), (BENT, 8, 9), (PAIR, 7, 7), (RING, 4, 12)):
            known = rooms_to(hall, most)
            for value in product(range(-far, far + 1), repeat=len(hall)):
                self.assertEqual(value in known, is_room(hall, value), value)

    def test_far_rooms(self):
        dice = dice_of(11)
        for hall in (FULL, STEEP, RING, MIXED):
            room, far = first_room(hall), 0
            while far < 300:
                lamp = dice.choice([lamp for lamp in range(len(hall)) if room[lamp] > 0])
                room, far = through(hall, room, lamp), far + 1
            self.assertEqual(300, distance(hall, room))

    def test_rooms_as_far_as_presses(self):
        room = led_plainly(PAIR, (1, 1), (0, 1) * 2500)
        self.assertEqual(5000, distance(PAIR, room))
        self.assertEqual(pressed_plainly(PAIR, room, 0), through(PAIR, room, 0))

    def test_too_long(self):
        room = led_plainly(PAIR, (1, 1), (0, 1) * 2500 + (0,))
        for hall, numbers in ((PAIR, room), (STEEP, (-1, 1)), (FULL, (1,) * 7 + (-1,))):
            expect_error(self, is_room, [hall, numbers], errors.TooLong, most=5000)
            expect_error(self, distance, [hall, numbers], errors.TooLong, most=5000)
            expect_error(self, walls_home, [hall, numbers], errors.TooLong, most=5000)
            expect_error(self, through, [hall, numbers, 0], errors.TooLong, most=5000)
            # The error of the room stands ahead of that of the lamp.
            expect_error(self, through, [hall, numbers, None], errors.TooLong, most=5000)
        # Numbers of which never_paper tells that no play ends are no room.
        self.assertIs(False, is_room(MIXED, (1, -1, 1, -1, -1, -1)))
        self.assertIs(False, is_room(PAIR, (-1, 1)))

    def test_farthest_rooms(self):
        for name, far in ((("e", 8), 120), (("f", 4), 24), (("g", 2), 6), (("a", 1), 1), (("c", 3), 9)):
            hall = NAMED[name]
            self.assertEqual(far, distance(hall, (-1,) * len(hall)))
            self.assertEqual(tuple(range(len(hall))), walls_home(hall, (-1,) * len(hall)))
            self.assertEqual((), walls_home(hall, first_room(hall)))

    def test_is_room_of_any_value(self):
        values = [[1, 1], (1, True), (True, True), (1,), (1, 1, 1), (1, "1"), (1, None), (0, 0), (1, 0), (1, (1,))]
        values += [{0: 1, 1: 1}, "11", (10 ** 40, 1), (1, [1]), (-10 ** 40, -10 ** 50)]
        for value in arguments.ODD_VALUES + values:
            self.assertIs(False, is_room(CHAIN, value), value)

    def test_wrong_arguments(self):
        room = arguments.room(CHAIN, (0, 1), (1, 0), (2, 1), (-2, 2), (10 ** 30, -1))
        for function in (distance, walls_home):
            try_wrongs(self, function, (CHAIN, (-1, 2)), [arguments.HALL, room])
            try_wrongs(self, function, (LAMP, (-1,)), [arguments.HALL, arguments.room(LAMP)])
        try_wrongs(self, through, (CHAIN, (-1, 2), 0), [arguments.HALL, room, arguments.lamp(CHAIN)])
        try_wrongs(self, first_room, (CHAIN,), [arguments.HALL])
        try_wrongs(self, is_room, (CHAIN, None), [arguments.HALL, []])
        endless = wrongs(errors.BadRoom, [(0, 0), (2, 2), (-1, 1), (0, 1), (-3, 2)])
        try_wrongs(self, through, (PAIR, (-1, 3), 0), [arguments.HALL, endless, arguments.lamp(PAIR)])


if __name__ == "__main__":
    unittest.main()
