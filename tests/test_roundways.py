"""Point 57: round rooms, and the rooms on the round of an order."""

import unittest
from itertools import permutations

from kaleidorooms import errors
from kaleidorooms.halls import part_of, renamed, wings
from kaleidorooms.heights import steps
from kaleidorooms.jumps import fewest_jumps, jump_way, jumped
from kaleidorooms.roundways import count_round, on_round, round_by_jumps, round_room
from kaleidorooms.turning import beside
from tests import arguments
from tests.helpers import (
    BENT, CHAIN, ENDLESS_HALLS, FULL, LAMP, NAMED, dice_of, expect_error, hall_of, led_plainly, try_wrongs,
)
from tests.test_jumps import BIG, BIGGER, SMALL, jumps_to_rooms


def on_round_plainly(hall, order):
    """The rooms that come behind some of the fewest jumps to the round room, with the number of these."""
    goal = led_plainly(hall, (1,) * len(hall), order)
    ahead, left = jumps_to_rooms(hall), jumps_to_rooms(hall, goal)
    rooms = {room: many for room, many in ahead.items() if many + left[room] == ahead[goal]}
    return sorted(rooms, key=lambda room: (rooms[room], room))


class Rounds(unittest.TestCase):
    def test_round_rooms(self):
        dice = dice_of(570)
        for hall in list(NAMED.values()) + SMALL:
            order = tuple(dice.sample(range(len(hall)), len(hall)))
            room = round_room(hall, order)
            self.assertEqual(led_plainly(hall, (1,) * len(hall), order), room)
            self.assertEqual(len(hall), fewest_jumps(hall, room))
        self.assertEqual((-1,), round_room(LAMP, (0,)))
        self.assertEqual([(1, -2), (-2, 1)], [round_room(CHAIN, order) for order in ((0, 1), (1, 0))])

    def test_against_all_jumps(self):
        for hall in SMALL:
            for order in permutations(range(len(hall))):
                found = on_round(hall, order)
                self.assertEqual(on_round_plainly(hall, order), found)
                self.assertEqual(count_round(hall), len(found))
                counts = [fewest_jumps(hall, room) for room in found]
                self.assertEqual(tuple([counts.count(many) for many in range(len(hall) + 1)]), round_by_jumps(hall))

    def test_bigger_halls(self):
        dice = dice_of(571)
        for hall in BIGGER:
            for _ in range(2):
                order = tuple(dice.sample(range(len(hall)), len(hall)))
                self.assertEqual(on_round_plainly(hall, order), on_round(hall, order))
        for name in (("f", 4), ("d", 5), ("b", 5), ("a", 6)):
            hall = NAMED[name]
            order = tuple(dice.sample(range(len(hall)), len(hall)))
            found = on_round(hall, order)
            self.assertEqual((count_round(hall), count_round(hall)), (len(found), len(set(found))))
            self.assertEqual(((1,) * len(hall), round_room(hall, order)), (found[0], found[-1]))
            many = [fewest_jumps(hall, room) for room in found]
            self.assertEqual(sorted(zip(many, found)), list(zip(many, found)))
            counts = tuple([many.count(jumps) for jumps in range(len(hall) + 1)])
            self.assertEqual(counts, round_by_jumps(hall))
            self.assertEqual(counts, counts[::-1])

    def test_ways_lie_on_the_round(self):
        for hall in (NAMED["f", 4], NAMED["e", 6], NAMED["a", 7]):
            order = tuple(range(len(hall)))
            found = set(on_round(hall, order))
            way = jump_way(hall, round_room(hall, order))
            self.assertEqual(len(hall), len(way))
            for many in range(len(way) + 1):
                self.assertIn(jumped(hall, way[:many]), found)

    def test_counts(self):
        counts = {
            ("a", 1): 2, ("a", 2): 5, ("a", 3): 14, ("a", 7): 1430, ("a", 8): 4862, ("b", 2): 6, ("b", 3): 20,
            ("b", 8): 12870, ("c", 3): 20, ("d", 4): 50, ("d", 8): 9438, ("e", 6): 833, ("e", 7): 4160,
            ("e", 8): 25080, ("f", 4): 105, ("g", 2): 8,
        }
        for name, many in counts.items():
            self.assertEqual(many, count_round(NAMED[name]))
        for hall in NAMED.values():
            top = max(steps(hall)) + 1
            upper = lower = 1
            for step in steps(hall):
                upper, lower = upper * (step + top + 1), lower * (step + 1)
            self.assertEqual(upper, lower * count_round(hall))
        self.assertEqual((1, 36, 204, 351, 204, 36, 1), round_by_jumps(NAMED["e", 6]))

    def test_several_wings(self):
        dice = dice_of(572)
        for one, other in ((CHAIN, NAMED["b", 2]), (BENT, NAMED["a", 3]), (LAMP, NAMED["g", 2]), (LAMP, NAMED["f", 4])):
            both = beside(one, other)
            order = tuple(dice.sample(range(len(both)), len(both)))
            self.assertEqual(count_round(one) * count_round(other), count_round(both))
            ahead = tuple([lamp for lamp in order if lamp < len(one)])
            rest = tuple([lamp - len(one) for lamp in order if lamp >= len(one)])
            pairs = {near + far for near in on_round(one, ahead) for far in on_round(other, rest)}
            self.assertEqual(pairs, set(on_round(both, order)))
            counts = [0] * (len(both) + 1)
            for at, many in enumerate(round_by_jumps(one)):
                for more, times in enumerate(round_by_jumps(other)):
                    counts[at + more] += many * times
            self.assertEqual(tuple(counts), round_by_jumps(both))
        self.assertEqual(256, len(on_round(hall_of(8), (7, 6, 5, 4, 3, 2, 1, 0))))
        mixed = renamed(beside(BENT, NAMED["d", 4]), (6, 0, 5, 1, 4, 2, 3))
        product = 1
        for wing in wings(mixed):
            product *= count_round(part_of(mixed, wing))
        self.assertEqual(product, count_round(mixed))

    def test_2000_rooms_and_more(self):
        hall = NAMED["a", 7]
        self.assertEqual(1430, len(on_round(hall, (3, 1, 0, 2, 6, 5, 4))))
        for hall in (NAMED["a", 8], NAMED["b", 7], NAMED["d", 7], NAMED["e", 7], BIG, beside(LAMP, NAMED["a", 7])):
            expect_error(self, on_round, [hall, tuple(range(len(hall)))], errors.TooMany, most=2000)
            expect_error(self, round_by_jumps, [hall], errors.TooMany, most=2000)
            self.assertGreater(count_round(hall), 2000)
            expect_error(self, on_round, [hall, tuple(range(1, len(hall))) + (1,)], errors.BadOrder)
        self.assertEqual(1848, sum(round_by_jumps(beside(LAMP, NAMED["b", 6]))))
        even = beside(CHAIN, beside(BENT, BENT))
        self.assertEqual((2000, 2000), (len(on_round(even, (7, 6, 5, 4, 3, 2, 1, 0))), sum(round_by_jumps(even))))

    def test_returned_lists_are_new(self):
        on_round(CHAIN, (0, 1)).clear()
        self.assertEqual([(1, 1), (-1, -1), (-1, 2), (2, -1), (1, -2)], on_round(CHAIN, (0, 1)))

    def test_wrong_arguments(self):
        halls, orders = arguments.NOT_ENDING, arguments.order(BENT)
        for function in (round_room, on_round):
            try_wrongs(self, function, (BENT, (2, 0, 1)), [halls, orders])
            for hall in ENDLESS_HALLS + [FULL]:
                expect_error(self, function, [hall, None], errors.NotEnding)
        for function in (count_round, round_by_jumps):
            try_wrongs(self, function, (BENT,), [halls])


if __name__ == "__main__":
    unittest.main()
