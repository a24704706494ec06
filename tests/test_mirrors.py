"""Points 19 and 20: mirrors, lots and reasons against them."""

import unittest
from itertools import combinations, product

from kaleidorooms import errors
from kaleidorooms.arrows import arrow_sum, arrows
from kaleidorooms.mirrors import mirrors_of, room_of, shows_why, why_not
from kaleidorooms.rooms import distance, first_room
from kaleidorooms.words import go
from tests import arguments
from tests.helpers import (
    BENT, CHAIN, ENDLESS_HALLS, LAMP, NAMED, dice_of, expect_error, hall_of, rooms_to, try_wrongs,
)

SMALL = [LAMP, CHAIN, NAMED["b", 2], NAMED["g", 2], hall_of(2, (0, 1, 1, 3)), hall_of(3, (0, 2, 2, 1)), NAMED["a", 3]]
SMALL += [hall_of(2), BENT, NAMED["c", 3]]


def reasons_plainly(hall, lot):
    """All reasons against a lot, in whichever order one and other stand."""
    found = []
    for one, other in product(arrows(hall), repeat=2):
        both = tuple([own + its for own, its in zip(one, other)])
        if both in arrows(hall):
            if one in lot and other in lot and both not in lot:
                found.append((one, other, both))
            if both in lot and one not in lot and other not in lot:
                found.append((one, other, both))
    return found


class Mirrors(unittest.TestCase):
    def test_mirrors_of_all_rooms(self):
        for hall in SMALL:
            for room, far in rooms_to(hall, 100).items():
                expected = [arrow for arrow in arrows(hall) if sum(x * y for x, y in zip(arrow, room)) < 0]
                self.assertEqual(expected, mirrors_of(hall, room))
                self.assertEqual(far, len(expected))

    def test_first_and_farthest_rooms(self):
        for hall in NAMED.values():
            self.assertEqual([], mirrors_of(hall, first_room(hall)))
            self.assertEqual(arrows(hall), mirrors_of(hall, (-1,) * len(hall)))
            self.assertEqual((-1,) * len(hall), room_of(hall, arrows(hall)))
            self.assertEqual(first_room(hall), room_of(hall, []))

    def test_all_lots(self):
        for hall in SMALL:
            by_lot = {frozenset(mirrors_of(hall, room)): room for room in rooms_to(hall, 100)}
            for many in range(len(arrows(hall)) + 1):
                for lot in combinations(arrows(hall), many):
                    self.check_lot(hall, lot, by_lot.get(frozenset(lot)))

    def check_lot(self, hall, lot, room):
        self.assertEqual(room, room_of(hall, lot))
        why = why_not(hall, list(lot))
        self.assertEqual(room is None, why is not None)
        if why is not None:
            self.assertTrue(shows_why(hall, lot, why))
            reasons = reasons_plainly(hall, lot)
            self.assertEqual(min(reasons), why)

    def test_some_lots_of_big_halls(self):
        dice = dice_of(18)
        for name in (("e", 8), ("f", 4), ("d", 6), ("c", 5)):
            hall = NAMED[name]
            for _ in range(6):
                room = go(hall, tuple(dice.choices(range(len(hall)), k=40)))
                lot = mirrors_of(hall, room)
                self.assertEqual(distance(hall, room), len(lot))
                dice.shuffle(lot)
                before = list(lot)
                self.assertEqual(room, room_of(hall, lot))
                self.assertEqual(room, room_of(hall, tuple(lot)))
                self.assertIsNone(why_not(hall, lot))
                self.assertEqual(before, lot)
                spoiled = lot[1:] + [dice.choice([arrow for arrow in arrows(hall) if arrow not in lot])]
                other = room_of(hall, spoiled)
                self.assertEqual(other is None, why_not(hall, spoiled) is not None)
                if other is not None:
                    self.assertEqual(sorted(spoiled), sorted(mirrors_of(hall, other)))

    def test_shows_why_against_all_triples(self):
        dice = dice_of(19)
        for hall in (CHAIN, NAMED["b", 2], NAMED["g", 2], NAMED["a", 3]):
            for _ in range(20):
                lot = [arrow for arrow in arrows(hall) if dice.random() < 0.5]
                reasons = reasons_plainly(hall, lot)
                for triple in product(arrows(hall), repeat=3):
                    self.assertEqual(triple in reasons, shows_why(hall, lot, triple))

    def test_both_sorts_of_reasons(self):
        one, other, both = (0, 1), (1, 0), (1, 1)
        self.assertTrue(shows_why(CHAIN, [one, other], (one, other, both)))
        self.assertTrue(shows_why(CHAIN, (both,), (other, one, both)))
        self.assertFalse(shows_why(CHAIN, [one, other, both], (one, other, both)))
        self.assertFalse(shows_why(CHAIN, [one, both], (one, other, both)))
        self.assertFalse(shows_why(CHAIN, [one], (one, other, both)))
        self.assertFalse(shows_why(CHAIN, [], (one, other, both)))
        # The sum must be an arrow, and just that of the two.
        self.assertFalse(shows_why(NAMED["a", 3], [(1, 0, 0), (0, 0, 1)], ((1, 0, 0), (0, 0, 1), (1, 0, 1))))
        self.assertFalse(shows_why(CHAIN, [both], (both, one, other)))
        self.assertFalse(shows_why(CHAIN, [both], (both, (0, 0), both)))
        # Arrows that point down are no part of a reason.
        self.assertFalse(shows_why(CHAIN, [one], (both, (-1, 0), one)))

    def test_shows_why_of_any_value(self):
        one, other, both = (0, 1), (1, 0), (1, 1)
        values = [(one, other), [one, other, both], (one, other, both, both), (list(one), other, both), "abc"]
        values += [((False, True), other, both), ((0, True), other, both), (one, other, (1, True)), (one, None, both)]
        values += [(1, 2, 3)]
        values += [(one, other, list(both)), ({}, other, both), (one, other, "ab"), {one: other}, (one, one, both)]
        for value in arguments.ODD_VALUES + values:
            self.assertIs(False, shows_why(CHAIN, [both], value), value)
        self.assertIs(True, shows_why(CHAIN, [both], (one, other, both)))

    def test_lots_in_any_order(self):
        self.assertEqual((-2, 1), room_of(CHAIN, ((1, 0), (1, 1))))
        self.assertEqual((-2, 1), room_of(CHAIN, [(1, 1), (1, 0)]))
        expect_error(self, room_of, [CHAIN, [(1, 1), (1, 0), (1, 1)]], errors.BadArrows, index=2)
        expect_error(self, room_of, [CHAIN, [(1, 1), (-1, 0)]], errors.BadArrows, index=1)

    def test_returned_lists_are_new(self):
        mirrors_of(CHAIN, (-1, -1)).clear()
        self.assertEqual([(0, 1), (1, 0), (1, 1)], mirrors_of(CHAIN, (-1, -1)))

    def test_sums_by_mirrors(self):
        room = go(BENT, (1, 2, 0, 1))
        for arrow in arrows(BENT):
            self.assertEqual(arrow in mirrors_of(BENT, room), arrow_sum(BENT, arrow, room) < 0)

    def test_wrong_arguments(self):
        for hall in ENDLESS_HALLS:
            for function, more in ((mirrors_of, [None]), (room_of, [None]), (why_not, [0]), (shows_why, [None, None])):
                expect_error(self, function, [hall] + more, errors.NotEnding)
        rooms = arguments.room(CHAIN, (0, 1), (2, 1), (-10 ** 30, 1))
        lots = arguments.lot(CHAIN, [(1, 1), (0, 1)], (1, -1), (-1, 0), (1, 2))
        try_wrongs(self, mirrors_of, (CHAIN, (-1, 2)), [arguments.NOT_ENDING, rooms])
        try_wrongs(self, room_of, (CHAIN, [(1, 0)]), [arguments.NOT_ENDING, lots])
        try_wrongs(self, why_not, (CHAIN, ((1, 0),)), [arguments.NOT_ENDING, lots])
        try_wrongs(self, shows_why, (CHAIN, [(1, 0)], None), [arguments.NOT_ENDING, lots, []])


if __name__ == "__main__":
    unittest.main()
