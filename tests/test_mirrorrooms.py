"""Point 28: mirror rooms."""

import unittest
from itertools import product

from kaleidorooms import errors
from kaleidorooms.arrows import arrows
from kaleidorooms.mirrored import mirror_word
from kaleidorooms.mirrorrooms import is_even_sided, mirror_rooms, mirrors_within
from kaleidorooms.rooms import distance
from tests import arguments
from tests.helpers import (
    BENT, CHAIN, ENDLESS_HALLS, FULL, LAMP, NAMED, dice_of, expect_error, hall_of, led_plainly, rooms_to, try_wrongs,
    within_plainly,
)

SMALL = [LAMP, CHAIN, NAMED["b", 2], NAMED["g", 2], hall_of(2, (0, 1, 1, 3)), hall_of(3, (0, 2, 2, 1)), NAMED["a", 3]]
SMALL += [hall_of(2), BENT]


def mirrored_plainly(hall, room, most):
    """All rooms behind words of an odd number of letters, at most so many, that read the same both ways."""
    found = set()
    for half in range(most // 2 + 1):
        for word in product(range(len(hall)), repeat=half):
            for lamp in range(len(hall)):
                found.add(led_plainly(hall, room, word + (lamp,) + word[::-1]))
    return found


class MirrorRooms(unittest.TestCase):
    def test_against_all_words(self):
        for hall, most in ((LAMP, 5), (CHAIN, 9), (NAMED["b", 2], 9), (NAMED["g", 2], 11), (NAMED["a", 3], 9)):
            for room in rooms_to(hall, 100):
                self.assertEqual(sorted(mirrored_plainly(hall, room, most)), mirror_rooms(hall, room))
        self.assertEqual(sorted(mirrored_plainly(BENT, (1, 1, 1), 11)), mirror_rooms(BENT, (1, 1, 1)))

    def test_one_for_each_mirror(self):
        dice = dice_of(29)
        for hall in list(NAMED.values()) + [hall_of(4, (0, 2, 1, 1), (1, 3, 1, 2))]:
            room = led_plainly(hall, (1,) * len(hall), dice.choices(range(len(hall)), k=20))
            words = [mirror_word(hall, arrow) for arrow in arrows(hall)]
            expected = sorted(led_plainly(hall, room, word) for word in words)
            self.assertEqual(expected, mirror_rooms(hall, room))
            self.assertEqual(len(arrows(hall)), len(set(expected)))

    def test_mirrors_within(self):
        for hall in SMALL:
            inside, far = within_plainly(hall), rooms_to(hall, 100)
            for room, other in product(inside, repeat=2):
                told = mirrors_within(hall, room, other)
                self.assertEqual(len(set(mirror_rooms(hall, room)) & inside[other]), told)
                if room in inside[other]:
                    self.assertGreaterEqual(told, far[other])

    def test_mirrors_within_big_halls(self):
        hall = NAMED["e", 8]
        first, last = (1,) * 8, (-1,) * 8
        self.assertEqual(120, mirrors_within(hall, first, last))
        self.assertEqual(0, mirrors_within(hall, first, first))
        self.assertEqual(0, mirrors_within(hall, last, first))
        room = led_plainly(hall, first, (3, 1, 2))
        self.assertEqual(3, mirrors_within(hall, first, room))
        self.assertEqual(3, mirrors_within(hall, room, room))

    def test_is_even_sided(self):
        answers = set()
        for hall in SMALL + [NAMED["a", 4]]:
            inside, far = within_plainly(hall), rooms_to(hall, 100)
            mirrored = {room: set(mirror_rooms(hall, room)) for room in inside}
            for room, listed in inside.items():
                even = all(len(mirrored[one] & listed) == far[room] for one in listed)
                self.assertIs(even, is_even_sided(hall, room))
                answers.add(even)
        self.assertEqual({True, False}, answers)

    def test_even_sides_of_rooms(self):
        hall = NAMED["a", 3]
        uneven = [room for room in rooms_to(hall, 100) if not is_even_sided(hall, room)]
        self.assertEqual([4, 5], sorted(distance(hall, room) for room in uneven))
        self.assertTrue(is_even_sided(NAMED["d", 5], (-1,) * 5))
        self.assertTrue(is_even_sided(NAMED["e", 8], (1,) * 8))

    def test_too_many(self):
        hall = NAMED["e", 8]
        expect_error(self, is_even_sided, [hall, (-1,) * 8], errors.TooMany, most=2000)
        far = led_plainly(hall, (1,) * 8, (0, 1, 2, 3, 4, 5, 6, 7, 0, 1, 2, 3, 4))
        expect_error(self, is_even_sided, [hall, far], errors.TooMany, most=2000)

    def test_returned_lists_are_new(self):
        mirror_rooms(CHAIN, (1, 1)).clear()
        self.assertEqual([(-1, -1), (-1, 2), (2, -1)], mirror_rooms(CHAIN, (1, 1)))

    def test_wrong_arguments(self):
        rooms = arguments.room(CHAIN, (0, 1), (2, 1), (-10 ** 30, 1))
        for function in (mirror_rooms, is_even_sided):
            try_wrongs(self, function, (CHAIN, (-1, 2)), [arguments.NOT_ENDING, rooms])
        try_wrongs(self, mirrors_within, (CHAIN, (-1, 2), (-1, -1)), [arguments.NOT_ENDING, rooms, rooms])
        for hall in ENDLESS_HALLS + [FULL]:
            expect_error(self, mirror_rooms, [hall, None], errors.NotEnding)
            expect_error(self, is_even_sided, [hall, None], errors.NotEnding)
            expect_error(self, mirrors_within, [hall, None, None], errors.NotEnding)


if __name__ == "__main__":
    unittest.main()
