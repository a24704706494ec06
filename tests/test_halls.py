"""Point 2: halls."""

import unittest

from kaleidorooms import errors
from kaleidorooms.halls import Hall, bond, neighbours, part_of, renamed, wings
from tests import arguments
from tests.helpers import CHAIN, FULL, LAMP, MIXED, SOME_HALLS, dice_of, expect_error, hall_of, random_hall, try_wrongs


class Halls(unittest.TestCase):
    def test_pushes_and_length(self):
        for pushes in (((0,),), ((0, 4), (1, 0)), FULL.pushes, ((0,) * 8,) * 8):
            hall = Hall(pushes)
            self.assertEqual(pushes, hall.pushes)
            self.assertEqual(len(pushes), len(hall))
        self.assertEqual(8, len(FULL))
        self.assertEqual(1, len(LAMP))

    def test_equal(self):
        self.assertTrue(Hall(((0, 1), (1, 0))) == CHAIN)
        self.assertFalse(Hall(((0, 1), (1, 0))) != CHAIN)
        self.assertFalse(Hall(((0, 1), (2, 0))) == CHAIN)
        self.assertTrue(Hall(((0, 1), (2, 0))) != CHAIN)
        self.assertFalse(LAMP == CHAIN)
        for other in (CHAIN.pushes, None, 2, "hall", [], {}, (CHAIN,)):
            self.assertFalse(CHAIN == other)
            self.assertFalse(other == CHAIN)
            self.assertTrue(CHAIN != other)

    def test_bad_pushes(self):
        row = (0, 1)
        for value in (None, True, 0, 5, "", "ab", [], [row, row], {}, {0: row}, (), ((0,) * 9,) * 9, b"a"):
            expect_error(self, Hall, [value], errors.BadPushes, index=None)
        things = [None, 0, "01", [0, 1], {0: 0, 1: 1}, (), (0,), (0, 1, 1), (0, 5), (0, -1), (0, True), (False, 1)]
        things += [(1, 1), (0, None), (0, "1"), (0, (1,)), (0, [1]), (0, 10 ** 30), (0, 1, 0)]
        for thing in things:
            expect_error(self, Hall, [(thing, (1, 0))], errors.BadPushes, index=0)
            if thing != (1, 1):
                expect_error(self, Hall, [((0, 1), thing)], errors.BadPushes, index=1)
            expect_error(self, Hall, [(thing, thing)], errors.BadPushes, index=0)
        expect_error(self, Hall, [((0, 1), (1, 1))], errors.BadPushes, index=1)
        expect_error(self, Hall, [((0, 1, 0), (1, 0, 0), (0, 0, 4, 0))], errors.BadPushes, index=2)
        expect_error(self, Hall, [((1,),)], errors.BadPushes, index=0)

    def test_lopsided(self):
        expect_error(self, Hall, [((0, 0), (3, 0))], errors.Lopsided, one=0, other=1)
        expect_error(self, Hall, [((0, 3), (0, 0))], errors.Lopsided, one=0, other=1)
        pushes = ((0, 1, 0, 0), (1, 0, 0, 2), (0, 0, 0, 0), (1, 0, 1, 0))
        expect_error(self, Hall, [pushes], errors.Lopsided, one=0, other=3)
        pushes = ((0, 1, 0, 0), (1, 0, 0, 2), (0, 0, 0, 0), (0, 1, 1, 0))
        expect_error(self, Hall, [pushes], errors.Lopsided, one=2, other=3)
        # Pushes of a wrong form are told ahead.
        expect_error(self, Hall, [((0, 0, 0), (3, 0, 0), (0, 0, 5))], errors.BadPushes, index=2)

    def test_neighbours(self):
        self.assertEqual((2,), neighbours(MIXED, 0))
        self.assertEqual((), neighbours(LAMP, 0))
        self.assertEqual((0, 1, 2, 3, 4, 5, 6), neighbours(FULL, 7))
        for hall in SOME_HALLS:
            for lamp in range(len(hall)):
                expected = [other for other in range(len(hall)) if hall.pushes[lamp][other] != 0]
                self.assertEqual(tuple(expected), neighbours(hall, lamp))

    def test_wings(self):
        self.assertEqual([(0, 2), (1, 4), (3, 5)], wings(MIXED))
        self.assertEqual([(0,)], wings(LAMP))
        self.assertEqual([tuple(range(8))], wings(FULL))
        self.assertEqual([(lamp,) for lamp in range(8)], wings(Hall(((0,) * 8,) * 8)))
        far = hall_of(7, (6, 0, 1, 1), (0, 5, 1, 1), (5, 2, 1, 1), (1, 3, 1, 1))
        self.assertEqual([(0, 2, 5, 6), (1, 3), (4,)], wings(far))

    def test_wings_are_apart_and_whole(self):
        dice = dice_of(2)
        for many in range(1, 9):
            for _ in range(20):
                hall = random_hall(dice, many, tied=0.25)
                found = wings(hall)
                self.assertEqual(list(range(many)), sorted(lamp for wing in found for lamp in wing))
                self.assertEqual(sorted(found), found)
                for wing in found:
                    self.assertEqual(tuple(sorted(wing)), wing)
                    reached = {wing[0]}
                    for _ in wing:
                        reached |= {other for lamp in reached for other in neighbours(hall, lamp)}
                    self.assertEqual(set(wing), reached)

    def test_returned_lists_are_new(self):
        first = wings(MIXED)
        first.clear()
        self.assertEqual([(0, 2), (1, 4), (3, 5)], wings(MIXED))

    def test_bond(self):
        for times in range(1, 5):
            for back in range(1, 5):
                hall = hall_of(2, (0, 1, times, back))
                expected = {1: 3, 2: 4, 3: 6}.get(times * back)
                self.assertEqual(expected, bond(hall, 0, 1))
                self.assertEqual(expected, bond(hall, 1, 0))
                self.assertEqual(1, bond(hall, 1, 1))
        self.assertEqual(2, bond(MIXED, 0, 1))

    def test_part_of(self):
        self.assertEqual(((0, 1, 0), (1, 0, 0), (0, 0, 0)), part_of(MIXED, (0, 2, 3)).pushes)
        self.assertEqual(((0, 4), (3, 0)), part_of(MIXED, (3, 5)).pushes)
        self.assertTrue(part_of(MIXED, tuple(range(6))) == MIXED)
        self.assertEqual(((0,),), part_of(FULL, (7,)).pushes)

    def test_renamed(self):
        order = (3, 5, 2, 0, 4, 1)
        again = renamed(MIXED, order)
        for one in range(6):
            for other in range(6):
                self.assertEqual(MIXED.pushes[order[one]][order[other]], again.pushes[one][other])
        self.assertTrue(renamed(MIXED, tuple(range(6))) == MIXED)
        self.assertTrue(renamed(CHAIN, (1, 0)) == CHAIN)
        self.assertEqual(((0, 3), (4, 0)), renamed(hall_of(2, (0, 1, 4, 3)), (1, 0)).pushes)

    def test_wrong_arguments(self):
        lamps = arguments.lamp(MIXED)
        try_wrongs(self, neighbours, (MIXED, 0), [arguments.HALL, lamps])
        try_wrongs(self, wings, (MIXED,), [arguments.HALL])
        try_wrongs(self, bond, (MIXED, 0, 1), [arguments.HALL, lamps, lamps])
        try_wrongs(self, part_of, (MIXED, (0, 1)), [arguments.HALL, arguments.part_lamps(MIXED)])
        try_wrongs(self, renamed, (MIXED, (1, 0, 2, 3, 4, 5)), [arguments.HALL, arguments.order(MIXED)])
        try_wrongs(self, neighbours, (LAMP, 0), [arguments.HALL, arguments.lamp(LAMP)])


if __name__ == "__main__":
    unittest.main()
