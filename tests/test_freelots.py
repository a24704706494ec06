"""Point 58: free lots."""

import unittest
from itertools import combinations

from kaleidorooms import errors
from kaleidorooms.arrows import arrows
from kaleidorooms.freelots import free_by_size, free_lots, is_free
from kaleidorooms.roundways import count_round, on_round, round_by_jumps
from kaleidorooms.turning import beside
from tests import arguments
from tests.helpers import (
    BENT, CHAIN, ENDLESS_HALLS, FULL, LAMP, NAMED, dice_of, expect_error, hall_of, try_wrongs, units_plainly,
)

SMALL = [LAMP, CHAIN, NAMED["b", 2], NAMED["g", 2], hall_of(2, (0, 1, 1, 3)), hall_of(2), hall_of(3, (0, 2, 2, 1))]
SMALL += [BENT, NAMED["a", 3], NAMED["c", 3], hall_of(3, (0, 1, 1, 1)), hall_of(3), NAMED["a", 4], NAMED["d", 4]]
BIG = NAMED["e", 8]


def is_free_plainly(lot):
    """Whether no arrow of a lot has none of its integers greater than those of another one."""
    return not any(
        one != other and all(own <= its for own, its in zip(one, other)) for one in lot for other in lot
    )


class FreeLots(unittest.TestCase):
    def test_against_all_lots(self):
        for hall in SMALL:
            ups = arrows(hall)
            lots = [lot for many in range(len(hall) + 2) for lot in combinations(ups, many) if is_free_plainly(lot)]
            self.assertEqual(sorted(lots, key=lambda lot: (len(lot), lot)), free_lots(hall))
            counts = [len(lot) for lot in lots]
            self.assertEqual(tuple([counts.count(many) for many in range(len(hall) + 1)]), free_by_size(hall))

    def test_is_free(self):
        dice = dice_of(580)
        for hall in SMALL + [NAMED["e", 6], BIG]:
            ups = arrows(hall)
            self.assertIs(True, is_free(hall, ()))
            self.assertIs(True, is_free(hall, []))
            self.assertIs(True, is_free(hall, units_plainly(hall)))
            self.assertIs(True, is_free(hall, ups[-1:]))
            for _ in range(30):
                lot = dice.sample(ups, dice.randint(0, min(4, len(ups))))
                self.assertIs(is_free_plainly(lot), is_free(hall, lot))
                self.assertIs(is_free_plainly(lot), is_free(hall, tuple(lot[::-1])))

    def test_order_of_lots(self):
        # Those of as many arrows ascend as tuples, each in the order of arrows.
        listed = [(), ((0, 1),), ((1, 0),), ((1, 1),), ((2, 1),), ((0, 1), (1, 0))]
        self.assertEqual(listed, free_lots(NAMED["b", 2]))
        for hall in (NAMED["b", 4], NAMED["d", 5], NAMED["f", 4]):
            ups = arrows(hall)
            found = free_lots(hall)
            self.assertEqual(sorted(set(found), key=lambda lot: (len(lot), lot)), found)
            for lot in found:
                self.assertEqual(sorted(lot, key=ups.index), list(lot))
                self.assertIs(True, is_free(hall, lot))

    def test_as_many_as_rooms_on_the_round(self):
        for hall in list(NAMED.values()) + SMALL:
            if count_round(hall) <= 2000:
                self.assertEqual(round_by_jumps(hall), free_by_size(hall))
                self.assertEqual(count_round(hall), len(free_lots(hall)))
                self.assertEqual(len(hall) + 1, len(free_by_size(hall)))
        self.assertEqual(len(on_round(BENT, (2, 0, 1))), len(free_lots(BENT)))

    def test_several_wings(self):
        for one, other in ((CHAIN, NAMED["b", 2]), (BENT, NAMED["a", 3]), (LAMP, NAMED["g", 2])):
            both = beside(one, other)
            ups = arrows(both)
            pairs = [
                tuple(sorted([arrow + (0,) * len(other) for arrow in lot] + [(0,) * len(one) + arrow for arrow in more],
                             key=ups.index))
                for lot in free_lots(one) for more in free_lots(other)
            ]
            self.assertEqual(sorted(pairs, key=lambda lot: (len(lot), lot)), free_lots(both))
        self.assertEqual((1, 8, 28, 56, 70, 56, 28, 8, 1), free_by_size(hall_of(8)))

    def test_2000_lots_and_more(self):
        self.assertEqual(1430, len(free_lots(NAMED["a", 7])))
        self.assertEqual(1848, sum(free_by_size(beside(LAMP, NAMED["b", 6]))))
        for hall in (beside(LAMP, beside(NAMED["b", 3], NAMED["d", 4])), beside(CHAIN, beside(BENT, BENT))):
            self.assertEqual((2000, 2000), (len(free_lots(hall)), sum(free_by_size(hall))))
        for hall in (NAMED["a", 8], NAMED["b", 7], NAMED["d", 7], NAMED["e", 7], BIG, beside(LAMP, NAMED["a", 7])):
            expect_error(self, free_lots, [hall], errors.TooMany, most=2000)
            expect_error(self, free_by_size, [hall], errors.TooMany, most=2000)
        self.assertIs(True, is_free(BIG, arrows(BIG)[:8]))

    def test_returned_lists_are_new(self):
        free_lots(CHAIN).clear()
        self.assertEqual(5, len(free_lots(CHAIN)))

    def test_wrong_arguments(self):
        halls = arguments.NOT_ENDING
        lots = arguments.lot(BENT, [(1, 0, 0), (0, 2, 1)], (0, 1, 2), (1, 0, 1))
        try_wrongs(self, is_free, (BENT, [(1, 0, 0)]), [halls, lots])
        for function in (free_lots, free_by_size):
            try_wrongs(self, function, (BENT,), [halls])
        for hall in ENDLESS_HALLS + [FULL]:
            expect_error(self, is_free, [hall, None], errors.NotEnding)


if __name__ == "__main__":
    unittest.main()
