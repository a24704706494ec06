"""Point 37: corners, and rooms of flat halls by distance."""

import unittest

from kaleidorooms import errors
from kaleidorooms.halls import part_of, renamed
from kaleidorooms.heights import count_rooms
from kaleidorooms.loads import load
from kaleidorooms.series import corner, rooms_at
from tests import arguments
from tests.helpers import (
    FLATS, LEAN, NO_INTEGERS, PAIR, RING, chain_of, dice_of, expect_error, ring_of, rooms_to, try_wrongs, wrongs,
)
from tests.test_flats import NOT_FLAT

DEEP = {2: 60, 3: 25, 4: 12, 5: 8, 6: 7, 7: 6, 8: 5}


class Series(unittest.TestCase):
    def test_corners(self):
        dice = dice_of(40)
        for hall in FLATS:
            order = tuple(dice.sample(range(len(hall)), len(hall)))
            for one in (hall, renamed(hall, order)):
                everyone = tuple(range(len(one)))
                worth = load(one, everyone)
                counts = {
                    lamp: count_rooms(part_of(one, everyone[:lamp] + everyone[lamp + 1:]))
                    for lamp in everyone if worth[lamp] == 1
                }
                most = max(counts.values())
                self.assertEqual(min(lamp for lamp in counts if counts[lamp] == most), corner(one))

    def test_corners_by_hand(self):
        self.assertEqual([0, 1, 0], [corner(hall) for hall in (PAIR, LEAN, RING)])
        self.assertEqual(2, corner(chain_of(3, (0, 1, 3, 1))))
        # Two lamps have the load 1, and without the second one there are more rooms.
        self.assertEqual(2, corner(chain_of(3, (0, 1, 1, 3))))
        self.assertEqual(2, corner(chain_of(3, (0, 1, 2, 1), (1, 2, 2, 1))))
        # There are as many without either one.
        self.assertEqual(0, corner(chain_of(3, (0, 1, 1, 2), (1, 2, 2, 1))))

    def test_rooms_at_all_distances(self):
        for hall in FLATS:
            deep = DEEP[len(hall)]
            distances = list(rooms_to(hall, deep).values())
            counts = tuple([distances.count(at) for at in range(deep + 1)])
            for most in (0, 1, 2, deep - 1, deep):
                self.assertEqual(counts[:most + 1], rooms_at(hall, most))

    def test_rooms_at_60(self):
        self.assertEqual((1,) + (2,) * 60, rooms_at(PAIR, 60))
        self.assertEqual((1,) + (2,) * 60, rooms_at(LEAN, 60))
        self.assertEqual((1,) + tuple([3 * far for far in range(1, 61)]), rooms_at(RING, 60))
        self.assertEqual((1,), rooms_at(ring_of(8), 0))
        for hall in FLATS:
            counts = rooms_at(hall, 60)
            self.assertEqual(61, len(counts))
            self.assertEqual(counts[:31], rooms_at(hall, 30))

    def test_wrong_arguments(self):
        halls = arguments.HALL + wrongs(errors.NotFlat, NOT_FLAT)
        many = wrongs(errors.BadMany, NO_INTEGERS + [-1, 61, 10 ** 30, "3", [3]])
        try_wrongs(self, corner, (RING,), [halls])
        try_wrongs(self, rooms_at, (RING, 3), [halls, many])
        for hall in NOT_FLAT:
            expect_error(self, rooms_at, [hall, None], errors.NotFlat)


if __name__ == "__main__":
    unittest.main()
