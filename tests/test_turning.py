"""Points 41 to 43, 44 and 46: turns, rings, folded halls, fixed rooms, and halls beside each other."""

import unittest
from itertools import permutations

from kaleidorooms import errors
from kaleidorooms.halls import Hall, part_of, renamed
from kaleidorooms.heights import count_rooms, rooms_by_distance
from kaleidorooms.loads import kinds
from kaleidorooms.plays import presses
from kaleidorooms.rooms import distance
from kaleidorooms.turning import (
    beside, can_fold, fixed_rooms, folded, ring_values, spread_numbers, spread_word, turn_rings, turned_numbers, turns,
)
from kaleidorooms.words import go
from tests import arguments
from tests.helpers import (
    BENT, CHAIN, ENDLESS_HALLS, FULL, LAMP, NAMED, chain_of, dice_of, expect_error, hall_of, led_plainly,
    pressed_plainly, random_numbers, rooms_to, try_wrongs, wrongs,
)

SMALL = [LAMP, CHAIN, NAMED["b", 2], NAMED["g", 2], hall_of(2), hall_of(3, (0, 2, 2, 1)), BENT, NAMED["a", 3]]
SMALL += [NAMED["a", 4], NAMED["d", 4], NAMED["f", 4], hall_of(4, (0, 2, 1, 1), (1, 3, 1, 1)), hall_of(3)]
SMALL += [hall_of(4, (0, 3, 2, 1), (1, 2, 2, 1)), hall_of(3, (0, 1, 1, 1))]
FORK = hall_of(4, (0, 1, 1, 1), (0, 2, 1, 1), (0, 3, 1, 1))
CHAINS = hall_of(8, (0, 1, 1, 1), (2, 3, 1, 1), (4, 5, 1, 1), (6, 7, 1, 1))
BIG = NAMED["e", 8]


def turns_plainly(hall):
    """All orders that leave a hall as it is, ascending."""
    return [order for order in permutations(range(len(hall))) if renamed(hall, order) == hall]


def rings_plainly(turn):
    """The rings of a turn."""
    found = set()
    for lamp in range(len(turn)):
        ring = {lamp}
        for _ in turn:
            ring |= {turn[one] for one in ring}
        found.add(tuple(sorted(ring)))
    return sorted(found)


def with_turns():
    """Small halls with all their turns, and some bigger ones with one."""
    pairs = [(hall, turn) for hall in SMALL for turn in turns_plainly(hall)]
    pairs += [(NAMED["a", many], tuple(range(many))[::-1]) for many in (5, 6, 7, 8)]
    pairs += [(NAMED["d", many], tuple(range(many - 2)) + (many - 1, many - 2)) for many in (5, 6, 8)]
    pairs += [(NAMED["e", 6], (4, 3, 2, 1, 0, 5)), (CHAINS, (2, 3, 4, 5, 6, 7, 0, 1))]
    pairs += [(CHAINS, (3, 2, 1, 0, 5, 4, 6, 7)), (CHAINS, (2, 3, 4, 5, 6, 7, 1, 0)), (BIG, tuple(range(8)))]
    return pairs


PAIRS = with_turns()
FOLDING = [(hall, turn) for hall, turn in PAIRS if can_fold(hall, turn)]


class Turns(unittest.TestCase):
    def test_against_all_orders(self):
        for hall in SMALL + [NAMED["a", 6], NAMED["d", 5], NAMED["e", 6], hall_of(6, (0, 1, 1, 1), (2, 3, 1, 1))]:
            self.assertEqual(turns_plainly(hall), turns(hall))
        # Lamps that differ by their pushes alone do not stand for each other.
        self.assertEqual([(0, 1)], turns(NAMED["b", 2]))
        self.assertEqual([(0, 1, 2, 3)], turns(NAMED["f", 4]))
        self.assertEqual([(0, 1, 2, 3), (1, 0, 3, 2)], turns(hall_of(4, (0, 2, 2, 1), (1, 3, 2, 1))))

    def test_2000_turns_and_more(self):
        for lamps, count in ((5, 120), (6, 720)):
            self.assertEqual(count, len(turns(hall_of(lamps))))
        for hall in (hall_of(7), hall_of(8)):
            expect_error(self, turns, [hall], errors.TooMany, most=2000)
        found = turns(hall_of(8, (0, 1, 1, 1)))
        self.assertEqual((1440, (0, 1, 2, 3, 4, 5, 6, 7), (1, 0, 7, 6, 5, 4, 3, 2)), (len(found), found[0], found[-1]))
        self.assertEqual(found, sorted(set(found)))
        self.assertEqual(384, len(turns(CHAINS)))
        self.assertEqual([tuple(range(8))], turns(BIG))
        self.assertEqual(720, len(turns(hall_of(8, (0, 1, 2, 1)))))

    def test_turned_numbers(self):
        self.assertEqual((7, 6, 5), turned_numbers(chain_of(3), (2, 1, 0), (5, 6, 7)))
        self.assertEqual((6, 7, 5), turned_numbers(hall_of(3), (1, 2, 0), (5, 6, 7)))
        dice = dice_of(411)
        for hall, turn in PAIRS:
            numbers = random_numbers(dice, hall, 10 ** 20)
            expected = tuple([numbers[turn[place]] for place in range(len(hall))])
            self.assertEqual(expected, turned_numbers(hall, turn, numbers))

    def test_plays_become_plays(self):
        dice = dice_of(412)
        for hall, turn in PAIRS:
            numbers = random_numbers(dice, hall, 3)
            turned = turned_numbers(hall, turn, numbers)
            self.assertEqual(presses(hall, numbers), presses(hall, turned))
            for lamp in range(len(hall)):
                self.assertEqual(turned_numbers(hall, turn, pressed_plainly(hall, numbers, turn[lamp])),
                                 pressed_plainly(hall, turned, lamp))
            word = tuple([dice.randrange(len(hall)) for _ in range(6)])
            room = led_plainly(hall, (1,) * len(hall), word)
            self.assertEqual(distance(hall, room), distance(hall, turned_numbers(hall, turn, room)))

    def test_rings(self):
        for hall, turn in PAIRS:
            self.assertEqual(rings_plainly(turn), turn_rings(hall, turn))
        self.assertEqual([(0, 1, 2, 3, 4, 5, 6, 7)], turn_rings(CHAINS, (2, 3, 4, 5, 6, 7, 1, 0)))
        self.assertEqual([(0,), (1,)], turn_rings(NAMED["b", 2], (0, 1)))


class Folded(unittest.TestCase):
    def test_can_fold(self):
        for hall, turn in PAIRS:
            alone = all(hall.pushes[one][other] == 0 for ring in rings_plainly(turn) for one in ring for other in ring)
            self.assertIs(alone, can_fold(hall, turn))
        self.assertEqual([False, True, False, True],
                         [can_fold(NAMED["a", many], tuple(range(many))[::-1]) for many in (4, 5, 6, 7)])
        self.assertEqual([True, True, False, False, True], [can_fold(hall, turn) for hall, turn in PAIRS[-5:]])

    def test_folded(self):
        for hall, turn in FOLDING:
            rings = rings_plainly(turn)
            rows = [
                [sum(hall.pushes[lamp][other[-1]] for lamp in ring) if ring != other else 0 for other in rings]
                for ring in rings
            ]
            found = folded(hall, turn)
            self.assertIsInstance(found, Hall)
            self.assertEqual(tuple(map(tuple, rows)), found.pushes)
            self.assertEqual({"ending"}, set(kinds(found)))
        self.assertEqual(((0, 1, 0), (1, 0, 2), (0, 1, 0)), folded(NAMED["a", 5], (4, 3, 2, 1, 0)).pushes)

    def test_cannot_fold(self):
        for hall, turn in PAIRS:
            if (hall, turn) not in FOLDING:
                expect_error(self, folded, [hall, turn], errors.CannotFold)
                expect_error(self, spread_word, [hall, turn, None], errors.CannotFold)
                expect_error(self, spread_word, [hall, turn, ()], errors.CannotFold)

    def test_values_and_spread(self):
        dice = dice_of(421)
        for hall, turn in PAIRS:
            rings = rings_plainly(turn)
            values = tuple([dice.randint(-10 ** 20, 10 ** 20) for _ in rings])
            numbers = spread_numbers(hall, turn, values)
            self.assertEqual(values, ring_values(hall, turn, numbers))
            self.assertEqual(numbers, turned_numbers(hall, turn, numbers))
            self.assertEqual([values[rings.index(ring)] for ring in rings], [numbers[ring[-1]] for ring in rings])
            for ring in rings:
                if len(ring) > 1:
                    other = numbers[:ring[0]] + (numbers[ring[0]] + 1,) + numbers[ring[0] + 1:]
                    expect_error(self, ring_values, [hall, turn, other], errors.NotFixed)
        # These need no hall that can be folded.
        self.assertEqual((3, 3), spread_numbers(CHAIN, (1, 0), (3,)))
        self.assertEqual((3,), ring_values(CHAIN, (1, 0), (3, 3)))
        expect_error(self, ring_values, [CHAIN, (1, 0), (3, 4)], errors.NotFixed)

    def test_presses_of_rings(self):
        dice = dice_of(422)
        for hall, turn in FOLDING:
            rings = rings_plainly(turn)
            small = folded(hall, turn)
            values = random_numbers(dice, small, 5)
            for lamp in range(len(small)):
                after = spread_numbers(hall, turn, pressed_plainly(small, values, lamp))
                numbers = spread_numbers(hall, turn, values)
                for order in (rings[lamp], rings[lamp][::-1]):
                    self.assertEqual(after, led_plainly(hall, numbers, order))

    def test_spread_words(self):
        dice = dice_of(423)
        for hall, turn in FOLDING:
            rings = rings_plainly(turn)
            small = folded(hall, turn)
            word = tuple([dice.randrange(len(small)) for _ in range(dice.randrange(8))])
            spread = spread_word(hall, turn, word)
            self.assertEqual([lamp for letter in word for lamp in rings[letter]], list(spread))
            self.assertEqual(spread_numbers(hall, turn, go(small, word)), go(hall, spread))
        self.assertEqual((), spread_word(FORK, (0, 2, 3, 1), ()))
        self.assertEqual((1, 2, 3, 0, 1, 2, 3), spread_word(FORK, (0, 2, 3, 1), (1, 0, 1)))

    def test_words_of_more_than_60_letters(self):
        turn = (0, 2, 3, 1)
        self.assertEqual((1, 2, 3) * 20, spread_word(FORK, turn, (1,) * 20))
        self.assertEqual((0,) * 60, spread_word(FORK, turn, (0,) * 60))
        for word in ((1,) * 21, (0,) * 58 + (1,), (1,) * 60, (0, 1) * 20):
            expect_error(self, spread_word, [FORK, turn, word], errors.TooLong, most=60)
        self.assertEqual(60, len(spread_word(FORK, turn, (0,) * 57 + (1,))))
        expect_error(self, spread_word, [FORK, turn, (1,) * 61], errors.BadWord, index=None)
        expect_error(self, spread_word, [FORK, turn, (1,) * 30 + (2,)], errors.BadWord, index=30)


class FixedRooms(unittest.TestCase):
    def test_against_all_rooms(self):
        for hall, turn in PAIRS:
            if count_rooms(hall) <= 1200:
                rooms = rooms_to(hall, 100)
                fixed = [room for room in rooms if all(room[lamp] == room[at] for at, lamp in enumerate(turn))]
                self.assertEqual(sorted(fixed), fixed_rooms(hall, turn))

    def test_rooms_of_the_folded_hall(self):
        for hall, turn in FOLDING:
            small = folded(hall, turn)
            if count_rooms(small) <= 1200:
                spread = [spread_numbers(hall, turn, room) for room in rooms_to(small, 100)]
                self.assertEqual(sorted(spread), fixed_rooms(hall, turn))

    def test_big_halls(self):
        self.assertEqual(384, len(fixed_rooms(NAMED["a", 8], (7, 6, 5, 4, 3, 2, 1, 0))))
        self.assertEqual(1152, len(fixed_rooms(NAMED["e", 6], (4, 3, 2, 1, 0, 5))))
        for room in fixed_rooms(NAMED["a", 8], (7, 6, 5, 4, 3, 2, 1, 0))[::25]:
            self.assertEqual(room, room[::-1])
            self.assertGreaterEqual(distance(NAMED["a", 8], room), 0)

    def test_2000_rooms_and_more(self):
        everyone = tuple(range(5))
        self.assertEqual(1920, len(fixed_rooms(NAMED["d", 5], everyone)))
        self.assertEqual(sorted(rooms_to(NAMED["d", 5], 100)), fixed_rooms(NAMED["d", 5], everyone))
        for hall in (NAMED["a", 6], NAMED["b", 5], BIG):
            expect_error(self, fixed_rooms, [hall, tuple(range(len(hall)))], errors.TooMany, most=2000)
        expect_error(self, fixed_rooms, [NAMED["d", 6], (0, 1, 2, 3, 5, 4)], errors.TooMany, most=2000)
        self.assertEqual(384, len(fixed_rooms(NAMED["d", 5], (0, 1, 2, 4, 3))))

    def test_returned_lists_are_new(self):
        for function, more in ((turns, []), (turn_rings, [(1, 0)]), (fixed_rooms, [(1, 0)])):
            before = list(function(CHAIN, *more))
            function(CHAIN, *more).clear()
            self.assertEqual(before, function(CHAIN, *more))


class Beside(unittest.TestCase):
    def test_beside(self):
        for one in SMALL:
            for other in (LAMP, NAMED["b", 2], BENT, NAMED["d", 4]):
                both = beside(one, other)
                many = len(one) + len(other)
                self.assertEqual(many, len(both))
                self.assertEqual(one, part_of(both, tuple(range(len(one)))))
                self.assertEqual(other, part_of(both, tuple(range(len(one), many))))
                self.assertTrue(all(both.pushes[lamp][len(one):] == (0,) * len(other) for lamp in range(len(one))))
                self.assertEqual(count_rooms(one) * count_rooms(other), count_rooms(both))
                self.distances_are_added(one, other, both)

    def distances_are_added(self, one, other, both):
        counts = [0] * len(rooms_by_distance(both))
        for at, many in enumerate(rooms_by_distance(one)):
            for far, times in enumerate(rooms_by_distance(other)):
                counts[at + far] += many * times
        self.assertEqual(tuple(counts), rooms_by_distance(both))
        dice = dice_of(len(both))
        near, rest = dice.choice(sorted(rooms_to(one, 5))), dice.choice(sorted(rooms_to(other, 5)))
        self.assertEqual(distance(one, near) + distance(other, rest), distance(both, near + rest))

    def test_too_wide(self):
        self.assertEqual(8, len(beside(NAMED["a", 4], NAMED["d", 4])))
        self.assertEqual(8, len(beside(LAMP, NAMED["e", 7])))
        for one, other in ((LAMP, BIG), (BIG, LAMP), (NAMED["a", 5], NAMED["d", 4]), (BIG, BIG)):
            expect_error(self, beside, [one, other], errors.TooWide)


class WrongArguments(unittest.TestCase):
    def test_wrong_arguments(self):
        halls = arguments.NOT_ENDING
        turn, others = (0, 2, 3, 1), [(1, 0, 2, 3), (3, 2, 1, 0), (1, 2, 3, 0)]
        bad = arguments.turn(FORK, *others)
        folding = bad
        lengths = [[1, 2], (1,), (1, 2, 3), (1, 2, 3, 4)]
        short = wrongs(errors.BadNumbers, arguments.ODD_VALUES + lengths)
        more = wrongs(errors.BadNumbers, [(1, True), (None, 1), ("1", 2), ((1,), 2), "12", {0: 1, 1: 2}, (1, [2])])
        small = folded(FORK, turn)
        try_wrongs(self, turns, (FORK,), [halls])
        try_wrongs(self, turned_numbers, (FORK, turn, (1, 2, 3, 4)), [halls, bad, arguments.numbers(FORK)])
        try_wrongs(self, turn_rings, (FORK, turn), [halls, bad])
        try_wrongs(self, can_fold, (FORK, turn), [halls, bad])
        try_wrongs(self, folded, (FORK, turn), [halls, folding])
        fixed = arguments.numbers(FORK) + wrongs(errors.NotFixed, [(1, 2, 3, 3), (1, 2, 2, 3), (0, 10 ** 30, 0, 0)])
        try_wrongs(self, ring_values, (FORK, turn, (1, 2, 2, 2)), [halls, bad, fixed])
        try_wrongs(self, spread_numbers, (FORK, turn, (1, 2)), [halls, bad, short + more])
        try_wrongs(self, spread_word, (FORK, turn, (0, 1)), [halls, folding, arguments.word(small, 0, 1)])
        try_wrongs(self, fixed_rooms, (FORK, turn), [halls, bad])
        try_wrongs(self, beside, (FORK, CHAIN), [halls, halls])

    def test_not_ending_stands_ahead(self):
        for hall in ENDLESS_HALLS + [FULL]:
            for function, more in (
                (turns, []), (turned_numbers, [None, None]), (turn_rings, [None]), (can_fold, [None]), (folded, [None]),
                (ring_values, [None, None]), (spread_numbers, [None, None]), (spread_word, [None, None]),
                (fixed_rooms, [None]), (beside, [None]), (turn_rings, [tuple(range(len(hall)))]),
            ):
                expect_error(self, function, [hall] + more, errors.NotEnding)
            expect_error(self, beside, [LAMP, hall], errors.NotEnding)
            expect_error(self, beside, [BIG, hall], errors.NotEnding)
            expect_error(self, beside, [None, hall], errors.BadHall)

    def test_turns_of_other_pushes(self):
        for hall, order in ((NAMED["b", 2], (1, 0)), (NAMED["g", 2], (1, 0)), (NAMED["f", 4], (3, 2, 1, 0)),
                            (BENT, (2, 1, 0)), (NAMED["a", 3], (1, 0, 2))):
            for function, more in (
                (turn_rings, []), (can_fold, []), (folded, []), (fixed_rooms, []), (turned_numbers, [None]),
                (ring_values, [None]), (spread_numbers, [None]), (spread_word, [None]),
            ):
                expect_error(self, function, [hall, order] + more, errors.BadTurn)


if __name__ == "__main__":
    unittest.main()
