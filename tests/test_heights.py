"""Point 21: heights, steps and counts of rooms."""

import unittest

from kaleidorooms import errors
from kaleidorooms.arrows import arrows
from kaleidorooms.halls import Hall
from kaleidorooms.heights import count_rooms, heights, rooms_by_distance, steps
from kaleidorooms.plays import starts_to
from tests import arguments
from tests.helpers import BENT, ENDING_HALLS, ENDLESS_HALLS, LAMP, NAMED, expect_error, hall_of, rooms_to, try_wrongs

STEPS = {
    ("a", 1): (1,), ("a", 8): (1, 2, 3, 4, 5, 6, 7, 8), ("b", 2): (1, 3), ("b", 8): (1, 3, 5, 7, 9, 11, 13, 15),
    ("c", 5): (1, 3, 5, 7, 9), ("d", 4): (1, 3, 3, 5), ("d", 8): (1, 3, 5, 7, 7, 9, 11, 13),
    ("e", 6): (1, 4, 5, 7, 8, 11), ("e", 7): (1, 5, 7, 9, 11, 13, 17), ("e", 8): (1, 7, 11, 13, 17, 19, 23, 29),
    ("f", 4): (1, 5, 7, 11), ("g", 2): (1, 5),
}
ROOMS = {
    ("a", 8): 362880, ("b", 8): 10321920, ("c", 8): 10321920, ("d", 8): 5160960, ("e", 6): 51840, ("e", 7): 2903040,
    ("e", 8): 696729600, ("f", 4): 1152, ("g", 2): 12, ("a", 1): 2,
}
TWO_WINGS = hall_of(6, (0, 3, 1, 1), (3, 5, 1, 2), (1, 4, 1, 1))


class Heights(unittest.TestCase):
    def test_heights(self):
        for hall in list(NAMED.values()) + ENDING_HALLS + [TWO_WINGS]:
            told = heights(hall)
            tall = [sum(arrow) for arrow in arrows(hall)]
            self.assertEqual(len(told), max(tall))
            for height, many in enumerate(told, 1):
                self.assertEqual(tall.count(height), many)
            self.assertEqual(len(hall), told[0])

    def test_steps(self):
        for name, told in STEPS.items():
            self.assertEqual(told, steps(NAMED[name]))
        self.assertEqual((1, 1, 1, 2, 3), steps(hall_of(5, (0, 3, 1, 2), (1, 4, 1, 1))))
        for hall in list(NAMED.values()) + ENDING_HALLS + [TWO_WINGS]:
            told = steps(hall)
            self.assertEqual((len(hall), tuple(sorted(told))), (len(told), told))
            for height, many in enumerate(heights(hall), 1):
                self.assertEqual(many, len([step for step in told if step >= height]))

    def test_count_rooms(self):
        for name, many in ROOMS.items():
            self.assertEqual(many, count_rooms(NAMED[name]))
        self.assertEqual(256, count_rooms(Hall(((0,) * 8,) * 8)))
        self.assertEqual(2, count_rooms(LAMP))

    def test_rooms_by_distance(self):
        names = (("f", 4), ("a", 5), ("b", 4), ("c", 4), ("d", 5))
        halls = ENDING_HALLS + [TWO_WINGS] + [NAMED[name] for name in names]
        for hall in halls:
            known = list(rooms_to(hall, 1000).values())
            expected = tuple([known.count(far) for far in range(max(known) + 1)])
            self.assertEqual(expected, rooms_by_distance(hall))
            self.assertEqual(len(known), count_rooms(hall))

    def test_big_halls(self):
        for name in ROOMS:
            hall = NAMED[name]
            told = rooms_by_distance(hall)
            self.assertEqual(len(arrows(hall)) + 1, len(told))
            self.assertEqual(told[::-1], told)
            self.assertEqual(count_rooms(hall), sum(told))
            for far in range(min(4, len(told))):
                self.assertEqual(told[far], len(starts_to(hall, (1,) * len(hall), far)))
        self.assertEqual((1, 1), rooms_by_distance(LAMP))

    def test_bent(self):
        self.assertEqual(((3, 2, 2, 1, 1), (1, 3, 5), 48), (heights(BENT), steps(BENT), count_rooms(BENT)))

    def test_wrong_arguments(self):
        for function in (heights, steps, count_rooms, rooms_by_distance):
            try_wrongs(self, function, (BENT,), [arguments.NOT_ENDING])
            for hall in ENDLESS_HALLS:
                expect_error(self, function, [hall], errors.NotEnding)


if __name__ == "__main__":
    unittest.main()
