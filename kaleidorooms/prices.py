"""Prices of walls, and what words cost by them (points 45 and 46)."""

from kaleidorooms.arrows import need_ending, signs_turned
from kaleidorooms.checks import is_integers
from kaleidorooms.errors import BadPrices
from kaleidorooms.halls import bond_of
from kaleidorooms.plays import below_lamps, crossed, levels_of
from kaleidorooms.words import turned_about

MOST_PRICE = 9


def need_prices(hall, prices):
    """Raises BadPrices for any value that is no tuple of an integer from 0 to 9 for each lamp."""
    if not is_integers(prices, len(hall)) or not all([0 <= price <= MOST_PRICE for price in prices]):
        raise BadPrices()


def costs_left(hall, prices, turned):
    """The least that a play costs that ends, told for each of the numbers that come in the plays of a turned room."""
    left = {}
    levels = levels_of(hall, turned)
    for rows in reversed(levels):
        for numbers in rows:
            ways = [prices[lamp] + left[crossed(hall, numbers, lamp)] for lamp in below_lamps(numbers)]
            left[numbers] = min(ways) if ways else 0
    return left


def cheapest(hall, prices, room):
    """The least that a word to a room costs, and the least of the short words that cost so much.

    The short words to the room are the plays of its turned room, to which its words lead read backwards.
    """
    need_ending(hall)
    need_prices(hall, prices)
    turned = turned_about(hall, room)
    left = costs_left(hall, prices, turned)
    price = left[turned]
    word = []
    while below_lamps(turned):
        ways = [(prices[lamp] + left[crossed(hall, turned, lamp)], lamp) for lamp in below_lamps(turned)]
        lamp = min(ways)[1]
        word.append(lamp)
        turned = crossed(hall, turned, lamp)
    return (price, tuple(word))


def dearest_short(hall, prices, room):
    """The most that a short word to a room costs."""
    need_ending(hall)
    need_prices(hall, prices)
    turned = turned_about(hall, room)
    return -costs_left(hall, signs_turned(prices), turned)[turned]


def one_price(hall, prices):
    """Whether for each room all short words to it cost the same.

    Turns of two lamps make the short words to a room from each other, and only those with the bond 3 change how
    often each of the two stands in a word.
    """
    need_ending(hall)
    need_prices(hall, prices)
    for other in range(len(hall)):
        for one in range(other):
            if bond_of(hall, one, other) == 3 and prices[one] != prices[other]:
                return False
    return True
