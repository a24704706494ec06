"""The corner of a hall that is one flat wing, and its rooms by distance (point 37)."""

from kaleidorooms.checks import is_integer_between
from kaleidorooms.errors import BadMany
from kaleidorooms.flats import need_flat, whole_load
from kaleidorooms.halls import lamps_beside
from kaleidorooms.heights import part_steps, rooms_by_steps, with_step

MOST_FAR = 60


def corner(hall):
    """The lamp of load 1 without which the other lamps have the most rooms, of several the least one."""
    need_flat(hall)
    return corner_of(hall)


def steps_without(hall, lamp):
    """The steps of the hall of all other lamps."""
    return part_steps(hall, lamps_beside(hall, (lamp,)))


def corner_of(hall):
    """The lamp that corner is."""
    lamps = [lamp for lamp, own in enumerate(whole_load(hall)) if own == 1]
    counts = [rooms_by_steps(steps_without(hall, lamp)) for lamp in lamps]
    return lamps[counts.index(max(counts))]


def rooms_at(hall, most):
    """How many rooms there are at the distances 0, 1 and so on to most.

    They are the counts of how many ways there are to make a distance as a sum of, for each step of the hall
    without the corner, one integer from 0 to the step, and the step itself, as many times as one likes.
    """
    need_flat(hall)
    if not is_integer_between(most, 0, MOST_FAR):
        raise BadMany()
    counts = [1] + [0] * most
    for step in steps_without(hall, corner_of(hall)):
        counts = with_step(counts, step)[:most + 1]
        for far in range(step, most + 1):
            counts[far] = counts[far] + counts[far - step]
    return tuple(counts)
