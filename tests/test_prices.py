"""Points 45 and 46: prices of walls."""

import unittest
from itertools import product

from kaleidorooms import errors
from kaleidorooms.plays import levels_of
from kaleidorooms.prices import cheapest, dearest_short, one_price
from kaleidorooms.rooms import distance
from kaleidorooms.shortwords import all_short
from kaleidorooms.words import short_word
from tests import arguments
from tests.helpers import (
    BENT, CHAIN, ENDLESS_HALLS, FULL, LAMP, NAMED, dice_of, expect_error, hall_of, led_plainly, pressed_plainly,
    rooms_to, try_wrongs,
)

SMALL = [LAMP, CHAIN, NAMED["b", 2], NAMED["g", 2], hall_of(2), hall_of(3, (0, 2, 2, 1)), BENT, NAMED["a", 3]]
SMALL += [hall_of(3, (0, 1, 1, 1), (1, 2, 1, 2)), hall_of(3, (0, 1, 1, 1))]
BIG = NAMED["e", 8]


def cost_of(prices, word):
    """What a word costs."""
    return sum(prices[lamp] for lamp in word)


def costs_plainly(hall, prices):
    """The least that any word to each room costs, by going through all walls again and again."""
    costs = {(1,) * len(hall): 0}
    changed = True
    while changed:
        changed = False
        for room in list(costs):
            for lamp in range(len(hall)):
                beyond = pressed_plainly(hall, room, lamp)
                if costs[room] + prices[lamp] < costs.get(beyond, 10 ** 9):
                    costs[beyond] = costs[room] + prices[lamp]
                    changed = True
    return costs


def some_prices(hall, dice):
    """Prices to try: all 0, all 9, one 0, one 9, and some by dice."""
    many = len(hall)
    found = [(0,) * many, (9,) * many, (0,) + (9,) * (many - 1), (9,) + (0,) * (many - 1)]
    return found + [tuple([dice.randint(0, 9) for _ in range(many)]) for _ in range(4)]


class Prices(unittest.TestCase):
    def test_against_all_words(self):
        dice = dice_of(450)
        for hall in SMALL:
            for prices in some_prices(hall, dice):
                costs = costs_plainly(hall, prices)
                for room in rooms_to(hall, 100):
                    words = all_short(hall, room)
                    least = min(cost_of(prices, word) for word in words)
                    cheap = min(word for word in words if cost_of(prices, word) == least)
                    self.assertEqual((least, cheap), cheapest(hall, prices, room))
                    # No word costs less than all short ones.
                    self.assertEqual(costs[room], least)
                    self.assertEqual(max(cost_of(prices, word) for word in words), dearest_short(hall, prices, room))

    def test_one_price(self):
        for hall in SMALL:
            for prices in product((0, 3, 9), repeat=len(hall)):
                same = all(cheapest(hall, prices, room)[0] == dearest_short(hall, prices, room)
                           for room in rooms_to(hall, 100))
                self.assertIs(same, one_price(hall, prices))
        self.assertIs(True, one_price(NAMED["f", 4], (3, 3, 7, 7)))
        self.assertIs(False, one_price(NAMED["f", 4], (3, 3, 7, 8)))
        self.assertIs(False, one_price(BIG, (1, 1, 1, 1, 1, 1, 1, 0)))
        self.assertIs(True, one_price(BIG, (9,) * 8))
        self.assertIs(True, one_price(hall_of(8), (0, 1, 2, 3, 4, 5, 6, 9)))
        self.assertIs(True, one_price(NAMED["b", 8], (4,) * 7 + (5,)))
        self.assertIs(False, one_price(NAMED["b", 8], (5,) + (4,) * 7))

    def test_same_price_for_all(self):
        dice = dice_of(451)
        for hall in SMALL + [NAMED["d", 4], NAMED["a", 8]]:
            for price in (0, 1, 9):
                word = tuple([dice.randrange(len(hall)) for _ in range(9)])
                room = led_plainly(hall, (1,) * len(hall), word)
                far = distance(hall, room)
                self.assertEqual((price * far, short_word(hall, room)), cheapest(hall, (price,) * len(hall), room))
                self.assertEqual(price * far, dearest_short(hall, (price,) * len(hall), room))

    def test_first_room(self):
        for hall in list(NAMED.values()):
            self.assertEqual((0, ()), cheapest(hall, (9,) * len(hall), (1,) * len(hall)))
            self.assertEqual(0, dearest_short(hall, (9,) * len(hall), (1,) * len(hall)))

    def test_free_walls(self):
        self.assertEqual((0, (1,)), cheapest(CHAIN, (9, 0), (2, -1)))
        self.assertEqual((9, (1, 0, 1)), cheapest(CHAIN, (9, 0), (-1, -1)))
        self.assertEqual(18, dearest_short(CHAIN, (9, 0), (-1, -1)))
        self.assertEqual((0, (0, 1, 0)), cheapest(CHAIN, (0, 0), (-1, -1)))

    def test_too_long_and_too_many(self):
        eight = (3,) * 8
        for function in (cheapest, dearest_short):
            expect_error(self, function, [BIG, eight, (-1,) * 8], errors.TooLong, most=60)
            # The farthest room of this hall is at the distance 56, and too many numbers come in its plays.
            expect_error(self, function, [NAMED["d", 8], eight, (-1,) * 8], errors.TooMany, most=2000)
            expect_error(self, function, [NAMED["b", 8], eight, (-1,) * 8], errors.TooLong, most=60)
            expect_error(self, function, [NAMED["a", 6], (1,) * 6, (-1,) * 6], errors.TooMany, most=2000)
            expect_error(self, function, [BIG, (3,) * 7 + (10,), (-1,) * 8], errors.BadPrices)
        farthest = (-1,) * 5
        self.assertEqual(1920, sum(len(rows) for rows in levels_of(NAMED["d", 5], farthest)))
        self.assertEqual(20, cheapest(NAMED["d", 5], (1,) * 5, farthest)[0])
        price, word = cheapest(NAMED["d", 5], (1, 2, 3, 4, 5), farthest)
        self.assertEqual((20, price), (len(word), cost_of((1, 2, 3, 4, 5), word)))
        self.assertEqual(farthest, led_plainly(NAMED["d", 5], (1,) * 5, word))

    def test_more_than_2000_words(self):
        # They are not listed, so they may be as many as they like.
        hall = hall_of(8)
        self.assertEqual((36, (0, 1, 2, 3, 4, 5, 6, 7)), cheapest(hall, (1, 2, 3, 4, 5, 6, 7, 8), (-1,) * 8))
        self.assertEqual(36, dearest_short(hall, (1, 2, 3, 4, 5, 6, 7, 8), (-1,) * 8))

    def test_wrong_arguments(self):
        halls, prices = arguments.NOT_ENDING, arguments.prices(BENT)
        for function in (cheapest, dearest_short):
            try_wrongs(self, function, (BENT, (0, 9, 1), (-1, -1, -1)), [halls, prices, arguments.room(BENT)])
        try_wrongs(self, one_price, (BENT, (0, 9, 1)), [halls, prices])
        for hall in ENDLESS_HALLS + [FULL]:
            for function, more in ((cheapest, [None, None]), (dearest_short, [None, None]), (one_price, [None])):
                expect_error(self, function, [hall] + more, errors.NotEnding)


if __name__ == "__main__":
    unittest.main()
