"""Points 3 and 4: loads, kinds and names."""

import unittest
from itertools import permutations, product

from kaleidorooms import errors
from kaleidorooms.halls import Hall, part_of, renamed, wings
from kaleidorooms.loads import kind, kinds, load, name_of, shows_kind
from tests import arguments
from tests.helpers import (
    CHAIN, FULL, LAMP, LEAN, MIXED, NAMED, PAIR, RING, SOME_HALLS, STEEP, TWO_FLATS, chain_of, dice_of, hall_of,
    random_hall, small_halls, try_wrongs,
)


def kind_plainly(hall, wing, worth):
    """The kind of a load, word by word as in the document, None if it is of none."""
    signs = set()
    for lamp, own in zip(wing, worth):
        weight = sum(hall.pushes[lamp][other] * its for other, its in zip(wing, worth))
        signs.add((2 * own > weight) - (2 * own < weight))
    return {1: "ending", 0: "flat", -1: "wild"}[signs.pop()] if len(signs) == 1 else None


class Kinds(unittest.TestCase):
    def check(self, hall):
        """The kind is shown by a load, so it is the only one; the load is the least there is."""
        self.assertEqual(tuple([kind(hall, wing) for wing in wings(hall)]), kinds(hall))
        for wing in wings(hall):
            word, worth = kind(hall, wing), load(hall, wing)
            self.assertIsInstance(worth, tuple)
            self.assertEqual(len(wing), len(worth))
            self.assertTrue(all(own >= 1 for own in worth))
            self.assertEqual(word, kind_plainly(hall, wing, worth), hall.pushes)
            self.assertTrue(shows_kind(hall, wing, (word, worth)))
            for other in {"ending", "flat", "wild"} - {word}:
                self.assertFalse(shows_kind(hall, wing, (other, worth)))

    def check_least(self, hall, wing):
        worth = load(hall, wing)
        word = kind(hall, wing)
        for less in product(*[range(1, own + 1) for own in worth]):
            self.assertEqual(less == worth, kind_plainly(hall, wing, less) == word, (hall.pushes, less))

    def test_all_small_halls(self):
        for many, most in ((1, 4), (2, 4), (3, 4)):
            for hall in small_halls(many, most):
                self.check(hall)

    def test_random_halls(self):
        dice = dice_of(3)
        for _ in range(400):
            self.check(random_hall(dice, dice.randint(4, 8), dice.choice((1, 2, 4)), dice.choice((0.2, 0.5, 1))))

    def test_kinds_known(self):
        self.assertEqual(("flat",), kinds(PAIR))
        self.assertEqual(("flat",), kinds(LEAN))
        self.assertEqual(("wild",), kinds(STEEP))
        self.assertEqual(("flat",), kinds(RING))
        self.assertEqual(("ending", "flat", "wild"), kinds(MIXED))
        self.assertEqual(("flat", "flat"), kinds(TWO_FLATS))
        self.assertEqual(("wild",), kinds(FULL))
        self.assertEqual(("ending",) * 8, kinds(Hall(((0,) * 8,) * 8)))
        # Chains and forks that are just too long, or just short enough.
        self.assertEqual(("flat",), kinds(chain_of(8, (6, 7, 0, 0), (3, 7, 1, 1))))
        self.assertEqual(("wild",), kinds(chain_of(8, (6, 7, 0, 0), (3, 7, 1, 2))))
        self.assertEqual(("flat",), kinds(chain_of(8, (0, 1, 2, 1), (6, 7, 1, 2))))
        self.assertEqual(("flat",), kinds(chain_of(8, (0, 7, 1, 1))))
        self.assertEqual(("wild",), kinds(hall_of(6, *[(0, other, 1, 1) for other in range(1, 6)])))
        self.assertEqual(("flat",), kinds(hall_of(5, *[(0, other, 1, 1) for other in range(1, 5)])))

    def test_loads_known(self):
        self.assertEqual((1,), load(LAMP, (0,)))
        self.assertEqual((1, 1), load(CHAIN, (0, 1)))
        self.assertEqual((2, 1), load(LEAN, (0, 1)))
        self.assertEqual((1, 1, 1), load(RING, (0, 1, 2)))
        self.assertEqual((2, 1), load(TWO_FLATS, (0, 2)))
        self.assertEqual((1, 1, 1), load(TWO_FLATS, (1, 3, 4)))
        star = hall_of(5, *[(0, other, 1, 1) for other in range(1, 5)])
        self.assertEqual((2, 1, 1, 1, 1), load(star, (0, 1, 2, 3, 4)))
        self.assertEqual((46, 91, 135, 110, 84, 57, 29, 68), load(NAMED["e", 8], tuple(range(8))))

    def test_loads_are_least(self):
        for hall in SOME_HALLS + list(NAMED.values()):
            for wing in wings(hall):
                if kind(hall, wing) != "wild" and len(wing) < 5 and max(load(hall, wing)) < 25:
                    self.check_least(hall, wing)
        for hall in small_halls(3, 4):
            for wing in wings(hall):
                if kind(hall, wing) != "wild":
                    self.check_least(hall, wing)

    def test_flat_loads_have_no_common_factor(self):
        for hall in (chain_of(8, (6, 7, 0, 0), (3, 7, 1, 1)), chain_of(8, (0, 1, 1, 2), (6, 7, 1, 2))):
            worth = load(hall, tuple(range(8)))
            self.assertEqual("flat", kind_plainly(hall, tuple(range(8)), worth))
            self.assertEqual(1, min(worth))

    def test_shows_kind(self):
        wing = (0, 1, 2)
        for right in ((1, 1, 1), (2, 2, 2), (10 ** 50,) * 3):
            self.assertTrue(shows_kind(RING, wing, ("flat", right)))
            self.assertFalse(shows_kind(RING, wing, ("ending", right)))
            self.assertFalse(shows_kind(RING, wing, ("wild", right)))
        self.assertTrue(shows_kind(CHAIN, (0, 1), ("ending", (3, 2))))
        self.assertFalse(shows_kind(CHAIN, (0, 1), ("ending", (2, 1))))
        self.assertTrue(shows_kind(STEEP, (0, 1), ("wild", (4, 3))))
        # One lamp's pushes weigh just as much, so this load is of no kind.
        self.assertFalse(shows_kind(STEEP, (0, 1), ("wild", (3, 2))))
        self.assertTrue(shows_kind(MIXED, (1, 4), ("flat", (5, 5))))

    def test_shows_kind_of_any_value(self):
        wing, right = (0, 1, 2), (1, 1, 1)
        values = arguments.ODD_VALUES + [("flat",), ("flat", right, right), ["flat", right], ("flat", list(right))]
        values += [(right, "flat"), ("Flat", right), (None, right), ("", right), ("even", right), ("flat", None)]
        values += [("flat", (1, 1)), ("flat", (1, 1, 1, 1)), ("flat", (1, 1, True)), ("flat", (0, 0, 0)), "flat", right]
        values += [("flat", (-1, -1, -1)), ("flat", "111"), ("flat", {0: 1}), ({"flat": right}, right), (1, 1)]
        values += [(None, (1, 1, 2)), (False, right), (["flat"], right), ("wild", (1, 2, 1)), ("flat", (1, 1, "1"))]
        for value in values:
            self.assertIs(False, shows_kind(RING, wing, value), value)
        self.assertIs(True, shows_kind(RING, wing, ("flat", right)))
        # A load of no kind is not shown by a kind that is no word.
        self.assertIs(False, shows_kind(RING, wing, (None, (1, 5, 1))))

    def test_wrong_arguments(self):
        hall = hall_of(5, (0, 1, 1, 1), (2, 4, 1, 1))
        wing = arguments.wing(hall)
        for function in (kind, load, name_of):
            try_wrongs(self, function, (hall, (0, 1)), [arguments.HALL, wing])
        try_wrongs(self, kinds, (hall,), [arguments.HALL])
        try_wrongs(self, shows_kind, (hall, (0, 1), None), [arguments.HALL, wing, []])
        self.assertRaises(errors.BadWing, kind, LAMP, (False,))


class Names(unittest.TestCase):
    def test_listed_wings(self):
        for (letter, many), hall in NAMED.items():
            self.assertEqual(("ending",), kinds(hall), (letter, many))
            self.assertEqual((letter, many), name_of(hall, tuple(range(many))))

    def test_names_do_not_hang_on_the_order(self):
        dice = dice_of(4)
        for name, hall in NAMED.items():
            for _ in range(8):
                order = tuple(dice.sample(range(len(hall)), len(hall)))
                self.assertEqual(name, name_of(renamed(hall, order), tuple(range(len(hall)))))

    def test_two_lamps(self):
        for times, back, name in ((1, 2, "b"), (2, 1, "b"), (1, 3, "g"), (3, 1, "g"), (1, 1, "a")):
            self.assertEqual((name, 2), name_of(hall_of(2, (0, 1, times, back)), (0, 1)))
        self.assertEqual(("f", 4), name_of(chain_of(4, (1, 2, 1, 2)), (0, 1, 2, 3)))

    def test_just_ending_wings_have_names(self):
        tried = {}
        for hall in small_halls(3, 4):
            for wing in wings(hall):
                name = name_of(hall, wing)
                self.assertEqual(kind(hall, wing) == "ending", name is not None)
                if name is not None:
                    tried[name] = True
                    self.assertTrue(is_renamed(part_of(hall, wing), name), (hall.pushes, name))
        self.assertEqual({("a", 1), ("a", 2), ("a", 3), ("b", 2), ("b", 3), ("c", 3), ("g", 2)}, set(tried))

    def test_wings_within_halls(self):
        self.assertEqual(("a", 2), name_of(MIXED, (0, 2)))
        self.assertIsNone(name_of(MIXED, (1, 4)))
        self.assertIsNone(name_of(MIXED, (3, 5)))
        hall = hall_of(8, (7, 1, 1, 1), (1, 5, 1, 1), (1, 3, 1, 1), (0, 2, 1, 3), (4, 6, 1, 2))
        self.assertEqual([("g", 2), ("d", 4), ("b", 2)], [name_of(hall, wing) for wing in wings(hall)])


def is_renamed(hall, name):
    """Whether a hall is that of a name, with two lamps in whichever direction, renamed somehow."""
    model = NAMED[name]
    turned_about = Hall(tuple(zip(*model.pushes))) if len(model) == 2 else model
    orders = permutations(range(len(hall)))
    return any(renamed(hall, order) == one for order in orders for one in (model, turned_about))


if __name__ == "__main__":
    unittest.main()
