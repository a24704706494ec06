"""Points 55 and 56: jumps over mirrors."""

import unittest
from fractions import Fraction
from itertools import product

from kaleidorooms import errors
from kaleidorooms.arrows import arrows
from kaleidorooms.heights import count_rooms, rooms_by_distance, steps
from kaleidorooms.jumps import are_independent, fewest_jumps, jump_way, jumped, rooms_by_jumps, shows_jump_way
from kaleidorooms.mirrored import mirror_room, mirror_word
from kaleidorooms.mirrorrooms import mirror_rooms
from kaleidorooms.turning import beside
from tests import arguments
from tests.helpers import (
    BENT, CHAIN, ENDLESS_HALLS, FULL, LAMP, NAMED, dice_of, expect_error, hall_of, led_plainly, rooms_to, try_wrongs,
    wrongs,
)

SMALL = [LAMP, CHAIN, NAMED["b", 2], NAMED["g", 2], hall_of(2, (0, 1, 1, 3)), hall_of(2), hall_of(3, (0, 2, 2, 1))]
SMALL += [BENT, NAMED["a", 3], NAMED["c", 3], hall_of(3, (0, 1, 1, 1)), hall_of(3)]
BIGGER = [NAMED["a", 4], NAMED["d", 4], hall_of(4, (0, 2, 1, 1), (1, 3, 2, 1))]
BIG = NAMED["e", 8]


def jumps_to_rooms(hall, start=None):
    """The least number of jumps that lead from a room, by default the first one, to each room."""
    known = {(1,) * len(hall) if start is None else start: 0}
    level = list(known)
    while level:
        after = []
        for room in level:
            for beyond in mirror_rooms(hall, room):
                if beyond not in known:
                    known[beyond] = known[room] + 1
                    after.append(beyond)
        level = after
    return known


def rank_plainly(rows):
    """How many of some tuples are independent, by fractions."""
    rows = [[Fraction(own) for own in row] for row in rows]
    rank = 0
    for place in range(len(rows[0]) if rows else 0):
        first = next((row for row in rows[rank:] if row[place] != 0), None)
        if first is None:
            continue
        rows.remove(first)
        rows.insert(rank, first)
        rows = [row if at == rank else [own - row[place] / first[place] * its for own, its in zip(row, first)]
                for at, row in enumerate(rows)]
        rank += 1
    return rank


def jumped_plainly(hall, jumps):
    """The room behind the walls of the mirror words of jumps."""
    room = (1,) * len(hall)
    for arrow in jumps:
        room = led_plainly(hall, room, mirror_word(hall, arrow))
    return room


class Jumps(unittest.TestCase):
    def test_jumped(self):
        dice = dice_of(550)
        for hall in SMALL + BIGGER + [NAMED["e", 6], BIG]:
            ups = arrows(hall)
            self.assertEqual((1,) * len(hall), jumped(hall, ()))
            for arrow in dice.sample(ups, min(5, len(ups))):
                self.assertEqual(mirror_room(hall, arrow), jumped(hall, (arrow,)))
                # A jump over the same mirror goes back.
                self.assertEqual((1,) * len(hall), jumped(hall, (arrow, arrow)))
            for many in (2, 3, 7):
                jumps = tuple([dice.choice(ups) for _ in range(many)])
                self.assertEqual(jumped_plainly(hall, jumps), jumped(hall, jumps))
                back = jumped(hall, jumps + jumps[::-1])
                self.assertEqual((1,) * len(hall), back)
                self.assertIn(jumped(hall, jumps + (ups[0],)), mirror_rooms(hall, jumped(hall, jumps)))

    def test_fewest_jumps(self):
        for hall in SMALL + BIGGER:
            for room, many in jumps_to_rooms(hall).items():
                self.assertEqual(many, fewest_jumps(hall, room))

    def test_jump_ways(self):
        dice = dice_of(551)
        for hall in SMALL + BIGGER + [NAMED["a", 8], NAMED["e", 7], BIG]:
            known = list(rooms_to(hall, 100 if len(hall) < 5 else 4))
            rooms = dice.sample(known, min(40, len(known))) + [(1,) * len(hall), (-1,) * len(hall)]
            for room in rooms:
                way = jump_way(hall, room)
                self.assertIsInstance(way, tuple)
                self.assertEqual(fewest_jumps(hall, room), len(way))
                self.assertEqual(room, jumped_plainly(hall, way))
                self.assertIs(True, shows_jump_way(hall, room, way))
                self.assertIs(True, are_independent(hall, way))
            self.assertEqual(((), 0), (jump_way(hall, (1,) * len(hall)), fewest_jumps(hall, (1,) * len(hall))))

    def test_shows_jump_way(self):
        for hall in SMALL[:8]:
            ups = arrows(hall)
            known = jumps_to_rooms(hall)
            for many in range(min(3, len(hall) + 1) if len(ups) > 6 else 4):
                for jumps in product(ups, repeat=many):
                    room = jumped_plainly(hall, jumps)
                    self.assertIs(known[room] == many, shows_jump_way(hall, room, jumps))
                    if many:
                        self.assertIs(False, shows_jump_way(hall, jumped_plainly(hall, jumps[1:]), jumps))

    def test_shows_jump_way_of_any_value(self):
        room = (1, -2)
        right = ((0, 1), (1, 1))
        self.assertIs(True, shows_jump_way(CHAIN, room, right))
        for value in arguments.ODD_VALUES + [
            list(right), ([0, 1], (1, 1)), ((0, -1), (1, 1)), ((0, 1),), right + ((1, 0), (1, 0)), ((0, True), (1, 1)),
            ((0, 1), (1, 1), None), ((0, 1), (1, 0)), ((0, 1), None), "ab", ((0, 1), (2, 2)), ((0, 1), (10 ** 30, 0)),
        ]:
            self.assertIs(False, shows_jump_way(CHAIN, room, value))
        self.assertIs(True, shows_jump_way(CHAIN, (1, 1), ()))
        self.assertIs(False, shows_jump_way(CHAIN, (1, 1), []))

    def test_independent_just_if_fewest(self):
        dice = dice_of(552)
        for hall in SMALL + BIGGER + [NAMED["e", 6]]:
            ups = arrows(hall)
            for many in (0, 1, 2, 2, 3, 3, 4, 5):
                jumps = tuple([dice.choice(ups) for _ in range(many)])
                free = rank_plainly(jumps) == many
                self.assertIs(free, are_independent(hall, jumps))
                self.assertIs(free, fewest_jumps(hall, jumped(hall, jumps)) == many)

    def test_are_independent(self):
        self.assertIs(True, are_independent(CHAIN, ()))
        self.assertIs(False, are_independent(CHAIN, ((1, 0), (1, 0))))
        self.assertIs(False, are_independent(CHAIN, ((1, 1), (1, 0), (1, 1))))
        # One of these arrows is half the sum of two others.
        self.assertIs(False, are_independent(NAMED["b", 2], ((0, 1), (2, 1), (1, 1))))
        for hall in NAMED.values():
            ups = arrows(hall)
            self.assertIs(True, are_independent(hall, tuple(ups[:len(hall)])))
            self.assertIs(False, are_independent(hall, tuple(ups[-1:] + ups[:len(hall)])))
            self.assertIs(False, are_independent(hall, tuple(ups[:1] * 60)))
        self.assertIs(True, are_independent(BIG, jump_way(BIG, (-1,) * 8)))

    def test_60_jumps_and_more(self):
        arrow = (1, 0)
        self.assertEqual((1, 1), jumped(CHAIN, (arrow,) * 60))
        self.assertEqual((-1, 2), jumped(CHAIN, (arrow,) * 59))
        self.assertIs(False, are_independent(CHAIN, (arrow,) * 60))
        for function in (jumped, are_independent):
            expect_error(self, function, [CHAIN, (arrow,) * 61], errors.BadJumps, index=None)
            expect_error(self, function, [CHAIN, (None,) * 61], errors.BadJumps, index=None)
            expect_error(self, function, [CHAIN, (arrow,) * 59 + ((1, -1),)], errors.BadJumps, index=59)
        self.assertIs(False, shows_jump_way(CHAIN, (1, 1), (arrow,) * 60))
        self.assertIs(False, shows_jump_way(CHAIN, (1, 1), (arrow,) * 62))

    def test_rooms_by_jumps(self):
        for hall in SMALL + BIGGER:
            counts = list(jumps_to_rooms(hall).values())
            self.assertEqual(tuple([counts.count(many) for many in range(len(hall) + 1)]), rooms_by_jumps(hall))
        for hall in NAMED.values():
            counts = rooms_by_jumps(hall)
            self.assertEqual((len(hall) + 1, 1, len(arrows(hall)), count_rooms(hall)),
                             (len(counts), counts[0], counts[1], sum(counts)))
            self.assertEqual(len(rooms_by_distance(hall)) - 1, counts[1])
            last = 1
            for step in steps(hall):
                last *= step
            self.assertEqual(last, counts[-1])
        self.assertEqual((1, 120), rooms_by_jumps(BIG)[:2])

    def test_several_wings(self):
        dice = dice_of(553)
        for one, other in ((CHAIN, NAMED["b", 2]), (BENT, NAMED["a", 3]), (NAMED["d", 4], NAMED["g", 2])):
            both = beside(one, other)
            for _ in range(6):
                near, rest = dice.choice(sorted(rooms_to(one, 6))), dice.choice(sorted(rooms_to(other, 6)))
                self.assertEqual(fewest_jumps(one, near) + fewest_jumps(other, rest), fewest_jumps(both, near + rest))
                self.assertEqual(near + rest, jumped(both, jump_way(both, near + rest)))
            counts = [0] * (len(both) + 1)
            for at, many in enumerate(rooms_by_jumps(one)):
                for more, times in enumerate(rooms_by_jumps(other)):
                    counts[at + more] += many * times
            self.assertEqual(tuple(counts), rooms_by_jumps(both))

    def test_wrong_arguments(self):
        halls, right = arguments.NOT_ENDING, ((1, 0, 0), (0, 2, 1))
        values = [None, True, 0, 1, "", "ab", {}, {right[0]: True}, -1, range(0), b"", [], list(right)]
        values.append((right[0],) * 61)
        jumps = wrongs(errors.BadJumps, values, index=None)
        things = [wrong.value for wrong in arguments.arrow(BENT)] + [(-1, 0, 0), (0, -2, -1), (1, -1, 0), (0, 1, 2)]
        for thing in things:
            jumps += wrongs(errors.BadJumps, [right + (thing,), right + (thing, None)], index=2)
            jumps += wrongs(errors.BadJumps, [(thing,), (thing,) + right], index=0)
        rooms = arguments.room(BENT)
        for function in (jumped, are_independent):
            try_wrongs(self, function, (BENT, right), [halls, jumps])
        for function in (fewest_jumps, jump_way):
            try_wrongs(self, function, (BENT, (-1, 2, 1)), [halls, rooms])
        try_wrongs(self, shows_jump_way, (BENT, (-1, 2, 1), None), [halls, rooms, []])
        try_wrongs(self, rooms_by_jumps, (BENT,), [halls])
        for hall in ENDLESS_HALLS + [FULL]:
            for function in (jumped, are_independent, fewest_jumps, jump_way):
                expect_error(self, function, [hall, None], errors.NotEnding)
            expect_error(self, shows_jump_way, [hall, None, None], errors.NotEnding)
            expect_error(self, rooms_by_jumps, [hall], errors.NotEnding)


if __name__ == "__main__":
    unittest.main()
