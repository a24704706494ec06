"""Points 31 and 34: how many suites there are, and rooms by their walls home."""

import unittest

from kaleidorooms import errors
from kaleidorooms.halls import part_of
from kaleidorooms.heights import count_rooms, rooms_by_distance
from kaleidorooms.quotients import (
    count_suites, count_with_home, last_room, nearest_rooms, rooms_with_home, suites_by_distance,
)
from kaleidorooms.rooms import distance
from tests import arguments
from tests.helpers import (
    BENT, CHAIN, ENDLESS_HALLS, FULL, LAMP, NAMED, expect_error, hall_of, lots_of_lamps, pressed_plainly, rooms_to,
    suite_plainly, try_wrongs,
)

SMALL = [LAMP, CHAIN, NAMED["b", 2], NAMED["g", 2], hall_of(2, (0, 1, 1, 3)), hall_of(3, (0, 2, 2, 1)), NAMED["a", 3]]
SMALL += [hall_of(2), BENT, NAMED["a", 4]]
BIG = NAMED["e", 8]


class Quotients(unittest.TestCase):
    def test_against_all_suites(self):
        for hall in SMALL:
            far = rooms_to(hall, 100)
            for lamps in lots_of_lamps(hall):
                nears = {min(suite_plainly(hall, room, lamps), key=lambda one: (far[one], one)) for room in far}
                listed = sorted(nears, key=lambda one: (far[one], one))
                self.assertEqual(listed, nearest_rooms(hall, lamps))
                self.assertEqual(len(nears), count_suites(hall, lamps))
                distances = [far[room] for room in nears]
                counts = tuple([distances.count(at) for at in range(max(distances) + 1)])
                self.assertEqual(counts, suites_by_distance(hall, lamps))

    def test_last_rooms(self):
        for hall in SMALL:
            far = rooms_to(hall, 100)
            for lamps in lots_of_lamps(hall):
                farthest = max(suite_plainly(hall, (1,) * len(hall), lamps), key=lambda room: far[room])
                self.assertEqual(farthest, last_room(hall, lamps))
        self.assertEqual((-1,) * 8, last_room(BIG, tuple(range(8))))
        self.assertEqual((1,) * 8, last_room(BIG, ()))
        room = last_room(BIG, (0, 1, 2, 3, 4, 5, 7))
        self.assertEqual(63, distance(BIG, room))
        self.assertEqual((-1,) * 6, room[:6])

    def test_walls_home(self):
        for hall in SMALL:
            far = rooms_to(hall, 100)
            for lamps in lots_of_lamps(hall):
                listed = [
                    room for room in far
                    if all((far[pressed_plainly(hall, room, lamp)] < far[room]) == (lamp in lamps)
                           for lamp in range(len(hall)))
                ]
                listed = sorted(listed, key=lambda room: (far[room], room))
                self.assertEqual(listed, rooms_with_home(hall, lamps))
                self.assertEqual(len(listed), count_with_home(hall, lamps))

    def test_no_lamps_and_all_lamps(self):
        for hall in NAMED.values():
            everyone = tuple(range(len(hall)))
            self.assertEqual((1, count_rooms(hall)), (count_suites(hall, everyone), count_suites(hall, ())))
            self.assertEqual([(1,) * len(hall)], nearest_rooms(hall, everyone))
            self.assertEqual((1,), suites_by_distance(hall, everyone))
            self.assertEqual(rooms_by_distance(hall), suites_by_distance(hall, ()))
            self.assertEqual(1, count_with_home(hall, ()))
        self.assertEqual(1, count_with_home(NAMED["d", 6], (0, 1, 2, 3, 4, 5)))
        self.assertEqual(1, count_with_home(BIG, tuple(range(8))))
        self.assertEqual([(-1,) * 4], rooms_with_home(NAMED["d", 4], (0, 1, 2, 3)))
        self.assertEqual([(1,) * 4], rooms_with_home(NAMED["d", 4], ()))

    def test_counts_of_big_halls(self):
        self.assertEqual(696729600, count_suites(BIG, ()))
        self.assertEqual(2160, count_suites(BIG, (1, 2, 3, 4, 5, 6, 7)))
        self.assertEqual(240, count_suites(BIG, (0, 1, 2, 3, 4, 5, 7)))
        counts = suites_by_distance(BIG, (0, 1, 2, 3, 4, 5, 7))
        self.assertEqual((58, 240), (len(counts), sum(counts)))
        distances = [distance(BIG, room) for room in nearest_rooms(BIG, (0, 1, 2, 3, 4, 5, 7))]
        self.assertEqual([at for at in range(58) for _ in range(counts[at])], distances)
        for lamps in ((0, 2), (1, 3, 5, 7), (6,)):
            self.assertEqual(count_suites(BIG, lamps), sum(suites_by_distance(BIG, lamps)))
            self.assertEqual(696729600, count_suites(BIG, lamps) * count_rooms(part_of(BIG, lamps)))
        self.assertEqual(count_suites(BIG, (0, 1, 2, 3, 4, 5, 7)) - 1, count_with_home(BIG, (6,)))
        hall = NAMED["e", 6]
        self.assertEqual(count_rooms(hall), sum(count_with_home(hall, lamps) for lamps in lots_of_lamps(hall)))
        lamps, beside = (0, 3, 4), (1, 2, 5)
        self.assertEqual(count_with_home(hall, lamps), count_with_home(hall, beside))

    def test_order_of_nearest_rooms(self):
        hall = NAMED["b", 5]
        lamps = (0, 1, 3)
        listed = nearest_rooms(hall, lamps)
        self.assertEqual(sorted(listed, key=lambda room: (distance(hall, room), room)), listed)
        self.assertEqual(count_suites(hall, lamps), len(set(listed)))
        self.assertTrue(all(room[lamp] > 0 for room in listed for lamp in lamps))

    def test_too_many(self):
        for lamps in ((), (1, 2, 3, 4, 5, 6, 7), (0, 1, 2, 3, 4, 5), (0, 1, 3, 4, 5, 6, 7)):
            self.assertGreater(count_suites(BIG, lamps), 2000)
            expect_error(self, nearest_rooms, [BIG, lamps], errors.TooMany, most=2000)
            expect_error(self, rooms_with_home, [BIG, lamps], errors.TooMany, most=2000)
        hall = NAMED["d", 5]
        self.assertEqual(1920, len(nearest_rooms(hall, ())))
        found = [room for lamps in lots_of_lamps(hall) for room in rooms_with_home(hall, lamps)]
        self.assertEqual(1920, len(set(found)))
        for wrong in ([], (1, 0), None):
            expect_error(self, nearest_rooms, [BIG, wrong], errors.BadLamps)
            expect_error(self, rooms_with_home, [BIG, wrong], errors.BadLamps)

    def test_returned_lists_are_new(self):
        for function in (nearest_rooms, rooms_with_home):
            before = list(function(BENT, (1,)))
            function(BENT, (1,)).clear()
            self.assertEqual(before, function(BENT, (1,)))

    def test_wrong_arguments(self):
        some = [wrong for wrong in arguments.part_lamps(BENT) if wrong.value != ()]
        for function in (
            count_suites, nearest_rooms, suites_by_distance, last_room, count_with_home, rooms_with_home,
        ):
            try_wrongs(self, function, (BENT, (0, 2)), [arguments.NOT_ENDING, some])
            for hall in ENDLESS_HALLS + [FULL]:
                expect_error(self, function, [hall, None], errors.NotEnding)


if __name__ == "__main__":
    unittest.main()
