"""Moves: turning, shortening and lengthening words (point 15)."""

from kaleidorooms.checks import is_integer_between
from kaleidorooms.errors import BadMove
from kaleidorooms.halls import bond_of, is_lamp, need_hall
from kaleidorooms.plays import crossed
from kaleidorooms.rooms import first_numbers
from kaleidorooms.words import MOST_LETTERS, need_word, room_behind

SHORT = "short"
LONG = "long"
TURN = "turn"


def moved(hall, word, move):
    """The word behind a move, None for any value of move that is none, or cannot be done."""
    if not isinstance(move, tuple) or not move:
        return None
    if move[0] == SHORT and len(move) == 2:
        return without_two(word, move[1])
    if move[0] == LONG and len(move) == 3:
        return with_two(hall, word, move[1], move[2])
    if move[0] == TURN and len(move) == 4:
        return with_turn(hall, word, move[1], move[2:])
    return None


def without_two(word, place):
    """A word without the letters at a place and the next one, None if these are not alike."""
    if not is_integer_between(place, 0, len(word) - 2) or word[place] != word[place + 1]:
        return None
    return word[:place] + word[place + 2:]


def with_two(hall, word, place, lamp):
    """A word with a lamp put in twice at a place, None if it cannot be."""
    if not is_integer_between(place, 0, len(word)) or not is_lamp(hall, lamp):
        return None
    if len(word) + 2 > MOST_LETTERS:
        return None
    return word[:place] + (lamp, lamp) + word[place:]


def with_turn(hall, word, place, pair):
    """A word in which two lamps by turns, from a place on, change their places, None if they cannot."""
    one, other = pair
    if not is_lamp(hall, one) or not is_lamp(hall, other) or one == other:
        return None
    many = bond_of(hall, one, other)
    if many is None or not is_integer_between(place, 0, len(word) - many):
        return None
    if word[place:place + many] != by_turns(one, other, many):
        return None
    return word[:place] + by_turns(other, one, many) + word[place + many:]


def by_turns(one, other, many):
    """So many letters, one and other by turns."""
    return ((one, other) * many)[:many]


def after_move(hall, word, move):
    """The word behind a move."""
    need_hall(hall)
    need_word(hall, word)
    after = moved(hall, word, move)
    if after is None:
        raise BadMove()
    return after


def shows_moves(hall, one, other, value):
    """Whether a value is a way from one word to another one."""
    need_hall(hall)
    need_word(hall, one)
    need_word(hall, other)
    if not isinstance(value, (list, tuple)):
        return False
    word = one
    for move in value:
        word = moved(hall, word, move)
        if word is None:
            return False
    return word == other


def moves_between(hall, one, other):
    """A way from one word to another one, None if they lead to unlike rooms.

    Both words are shortened, then the one short word is turned into the other one.
    """
    need_hall(hall)
    need_word(hall, one)
    need_word(hall, other)
    if room_behind(hall, one) != room_behind(hall, other):
        return None
    letters, way = shortening(hall, one)
    goal, way_to_goal = shortening(hall, other)
    for size in range(len(goal), 0, -1):
        bring_last(hall, letters, size, goal[size - 1], way)
    return way + way_back(hall, other, way_to_goal)


def shortening(hall, word):
    """The letters of a short word that leads to the same room as a word, and the moves that make it."""
    letters = list(word)
    way = []
    room = first_numbers(hall)
    size = 0
    # The first letters, so many as the size, are short already, and lead to the room.
    while size < len(letters):
        lamp = letters[size]
        if room[lamp] > 0:
            size = size + 1
        else:
            bring_last(hall, letters, size, lamp, way)
            way.append((SHORT, size - 1))
            del letters[size - 1:size + 1]
            size = size - 1
        room = crossed(hall, room, lamp)
    return letters, way


def bring_last(hall, letters, size, lamp, way):
    """Turns the first letters, so many as the size, and short, such that a lamp is the last of them.

    The lamp's wall must lead nearer from their room, as that of the last letter does. Then the room has a
    short word with both by turns at its end, as many letters as their bond tells: it is made from the last
    but one of these letters on, each in its turn, and then turned.
    """
    last = letters[size - 1]
    if last == lamp:
        return
    many = bond_of(hall, last, lamp)
    for less in range(1, many):
        bring_last(hall, letters, size - less, lamp if less % 2 == 1 else last, way)
    place = size - many
    one, other = letters[place], letters[place + 1]
    letters[place:size] = list(by_turns(other, one, many))
    way.append((TURN, place, one, other))


def way_back(hall, word, way):
    """The way from the word at the end of a way to the word at which the way begins."""
    back = []
    for move in way:
        back.append(counter_move(word, move))
        word = moved(hall, word, move)
    return back[::-1]


def counter_move(word, move):
    """The move that takes back what a shortening or a turn does to a word."""
    if move[0] == SHORT:
        return (LONG, move[1], word[move[1]])
    return (TURN, move[1], move[3], move[2])
