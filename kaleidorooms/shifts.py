"""Shifts: words of a hall without end that change no numbers of level 0 (points 38 and 40)."""

from kaleidorooms.arrows import sum_by, taken_off, units
from kaleidorooms.errors import BadShift, TooLong
from kaleidorooms.flats import need_flat, presses_far, whole_load
from kaleidorooms.halls import lamps_beside
from kaleidorooms.plays import crossed, is_numbers, need_numbers
from kaleidorooms.rooms import first_numbers, home_play
from kaleidorooms.series import corner_of
from kaleidorooms.suites import all_back, nearest_of
from kaleidorooms.words import MOST_LETTERS, led, need_word, room_behind, short_word


def need_shift(hall, shift):
    """Raises BadShift for any value that is no tuple of an integer for each lamp, of level 0."""
    if not is_numbers(hall, shift) or sum_by(whole_load(hall), shift) != 0:
        raise BadShift()


def moved_by(numbers, times, shift):
    """Numbers to which a shift is added some number of times."""
    return tuple([number + times * each for number, each in zip(numbers, shift)])


def shift_of(hall, word):
    """The shift of a word, None if it does not shift."""
    need_flat(hall)
    need_word(hall, word)
    worth = whole_load(hall)
    behind_units = [led(hall, unit, word) for unit in units(hall)]
    lamp = worth.index(1)
    # What is added to the unit of a lamp whose load is 1 is the shift, as the unit is of level 1.
    shift = moved_by(behind_units[lamp], -1, units(hall)[lamp])
    for unit, own, numbers in zip(units(hall), worth, behind_units):
        if numbers != moved_by(unit, own, shift):
            return None
    return shift


def shifted(hall, numbers, shift):
    """Numbers changed by a shift, as many times as their level tells."""
    need_flat(hall)
    need_numbers(hall, numbers)
    need_shift(hall, shift)
    return moved_by(numbers, sum_by(whole_load(hall), numbers), shift)


def shift_word(hall, shift):
    """The least of the shortest words that shift so, None if none does."""
    need_flat(hall)
    need_shift(hall, shift)
    if not is_whole_sum(echelon(shifts_over_corner(hall)), shift):
        return None
    room = moved_by(first_numbers(hall), sum(whole_load(hall)), shift)
    if presses_far(hall, room) > MOST_LETTERS:
        raise TooLong(MOST_LETTERS)
    return short_word(hall, room)


def shifts_over_corner(hall):
    """Shifts that words have, of which all such shifts are sums, each taken a whole number of times.

    Going through the corner's wall, and then over the mirror that words without the corner have along it, shifts
    by what the corner's wall takes off. Words without the corner ahead, and the same read backwards behind, turn
    this into the others.
    """
    corner = corner_of(hall)
    others = lamps_beside(hall, (corner,))
    return all_back(hall, nearest_of(hall, taken_off(hall, corner), others), others)


def shift_split(hall, room):
    """A shift, and the least of the shortest words without the corner to the room of which the shift is a room."""
    need_flat(hall)
    play = home_play(hall, room)
    corner = corner_of(hall)
    many = sum(whole_load(hall))
    near = first_numbers(hall)
    for lamp in reversed(play):
        near = crossed(hall, near, lamp)
        if lamp == corner:
            # This leads over the mirror along the corner's wall that words without the corner have.
            near = moved_by(near, many, taken_off(hall, corner))
    shift = tuple([(number - own) // many for number, own in zip(room, near)])
    # The least play of the room to which words lead read backwards is the least short word.
    return (shift, home_play(hall, room_behind(hall, home_play(hall, near))))


def echelon(rows):
    """Tuples of which the same are sums, each taken a whole number of times, as of some tuples of integers.

    Each is all 0 ahead of a place, and not 0 at it, and the later ones are 0 at this place, too.
    """
    found = []
    left = rows
    for place in range(len(rows[0]) if rows else 0):
        own, left = one_at(left, place)
        found = found + own
    return found


def one_at(rows, place):
    """Tuples of which the same are whole sums as of some: first those not 0 at a place, one at most, then the rest."""
    own = [row for row in rows if row[place] != 0]
    rest = [row for row in rows if row[place] == 0]
    while len(own) > 1:
        first = min([(abs(row[place]), row) for row in own])[1]
        less = [moved_by(row, -(row[place] // first[place]), first) for row in own if row != first]
        own = [first] + [row for row in less if row[place] != 0]
        rest = rest + [row for row in less if row[place] == 0]
    return (own, rest)


def place_of(row):
    """The first place at which a tuple of an echelon is not 0."""
    return [place for place, own in enumerate(row) if own != 0][0]


def is_whole_sum(rows, value):
    """Whether a tuple is a sum of those of an echelon, each taken a whole number of times."""
    for row in rows:
        place = place_of(row)
        value = moved_by(value, -(value[place] // row[place]), row)
    return all([own == 0 for own in value])
