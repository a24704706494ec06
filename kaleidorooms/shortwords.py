"""The short words that lead to a room, counted, listed and numbered (point 13).

The short words to a room are the plays of its turned room, to which its words lead read backwards; as many
unlike numbers come in these plays as in those of the room itself.
"""

from kaleidorooms.checks import is_integer_between
from kaleidorooms.errors import BadIndex, TooMany
from kaleidorooms.halls import need_hall
from kaleidorooms.plays import below_lamps, crossed, plays_left
from kaleidorooms.words import need_short, room_behind, turned_about

MOST_WORDS = 2000


def count_short(hall, room):
    """How many short words lead to a room."""
    need_hall(hall)
    turned = turned_about(hall, room)
    return plays_left(hall, turned)[turned]


def all_short(hall, room):
    """The ascending list of the short words that lead to a room."""
    need_hall(hall)
    turned = turned_about(hall, room)
    if plays_left(hall, turned)[turned] > MOST_WORDS:
        raise TooMany(MOST_WORDS)
    rows = [((), turned)]
    # All words are as long, so the words of one more letter come in the order of their beginnings.
    while below_lamps(rows[0][1]):
        rows = [
            (word + (lamp,), crossed(hall, left, lamp))
            for word, left in rows
            for lamp in below_lamps(left)
        ]
    return [word for word, _ in rows]


def short_at(hall, room, number):
    """The short word to a room that has a number in their ascending order."""
    need_hall(hall)
    turned = turned_about(hall, room)
    left = plays_left(hall, turned)
    if not is_integer_between(number, 0, left[turned] - 1):
        raise BadIndex()
    word = []
    rest = number
    while below_lamps(turned):
        lamp, rest = letter_at(hall, left, turned, rest)
        word.append(lamp)
        turned = crossed(hall, turned, lamp)
    return tuple(word)


def letter_at(hall, left, turned, number):
    """The first letter of the short word with a number, and the word's number among those that begin with it."""
    ways = [(lamp, left[crossed(hall, turned, lamp)]) for lamp in below_lamps(turned)]
    place = 0
    while number >= ways[place][1]:
        number = number - ways[place][1]
        place = place + 1
    return (ways[place][0], number)


def short_place(hall, word):
    """The number of a short word among those that lead to its room."""
    need_hall(hall)
    need_short(hall, word)
    turned = room_behind(hall, word[::-1])
    left = plays_left(hall, turned)
    ahead = 0
    for letter in word:
        for lamp in below_lamps(turned):
            if lamp < letter:
                ahead = ahead + left[crossed(hall, turned, lamp)]
        turned = crossed(hall, turned, letter)
    return ahead
