"""Rings: starts of level 0 of a hall without end, to which plays come back (point 39)."""

from kaleidorooms.arrows import sum_by
from kaleidorooms.errors import BadLevel, TooMany
from kaleidorooms.flats import need_flat, whole_load
from kaleidorooms.plays import MOST_NUMBERS, below_lamps, crossed, further, need_numbers


def has_level_nought(hall, start):
    """Whether the level of a start is 0."""
    return sum_by(whole_load(hall), start) == 0


def around(hall, start):
    """All numbers that come in the plays of a start of level 0, as the keys of a dict.

    BadNumbers for any value of start that is no numbers, BadLevel for a start of another level, TooMany if too
    many come.
    """
    need_flat(hall)
    need_numbers(hall, start)
    if not has_level_nought(hall, start):
        raise BadLevel()
    found = {start: True}
    fresh = [start]
    while fresh:
        fresh = [numbers for numbers in further(hall, fresh) if numbers not in found]
        for numbers in fresh:
            found[numbers] = True
        if len(found) > MOST_NUMBERS:
            raise TooMany(MOST_NUMBERS)
    return found


def ring_numbers(hall, start):
    """The ascending list of all numbers that come in the plays of a start of level 0, the start among them."""
    return sorted(around(hall, start))


def way_back(hall, start):
    """The least of the shortest plays, of one press or more, behind which the numbers are those of the start.

    None for a start that is all 0.
    """
    seen = {numbers: False for numbers in around(hall, start)}
    rows = [((), start)]
    # The plays of a row are ascending, so the first play that leads to some numbers is the least one.
    while rows:
        longer = []
        for play, numbers in rows:
            for lamp in below_lamps(numbers):
                beyond = crossed(hall, numbers, lamp)
                if beyond == start:
                    return play + (lamp,)
                if not seen[beyond]:
                    seen[beyond] = True
                    longer.append((play + (lamp,), beyond))
        rows = longer
    return None


def comes_back(hall, start):
    """Whether some play of one press or more leads to the numbers of a start again."""
    need_flat(hall)
    need_numbers(hall, start)
    return has_level_nought(hall, start) and any([number != 0 for number in start])
