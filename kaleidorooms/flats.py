"""Halls that are one flat wing: levels, arrows without end, and long plays (points 35 and 36)."""

from kaleidorooms.arrows import sum_by, turned, units
from kaleidorooms.checks import is_integer_between
from kaleidorooms.errors import BadArrow, BadHeight, NotFlat
from kaleidorooms.halls import all_lamps, need_hall, wings
from kaleidorooms.loads import FLAT, flat_load, kind_of
from kaleidorooms.plays import is_numbers, need_numbers, paper_of

MOST_HEIGHT = 40
# No arrow of a flat wing has a greater repeat (V. Kac's list of these wings).
MOST_REPEAT = 3


def need_flat(hall):
    """Raises BadHall for any value that is no hall, NotFlat for a hall that is not one flat wing."""
    need_hall(hall)
    everyone = all_lamps(hall)
    if wings(hall) != [everyone] or kind_of(hall, everyone) != FLAT:
        raise NotFlat()


def whole_load(hall):
    """The load of a hall that is one flat wing."""
    return flat_load(hall, all_lamps(hall))


def level(hall, numbers):
    """The sum of numbers by the load."""
    need_flat(hall)
    need_numbers(hall, numbers)
    return sum_by(whole_load(hall), numbers)


def low_arrows(hall, height):
    """All arrows that point up and have at most a height, the lesser heights first, those of one height ascending.

    Each one that is no unit comes by a turning from a less high one that points up.
    """
    found = {unit: True for unit in units(hall) if height > 0}
    fresh = list(found)
    while fresh:
        arrow = fresh.pop()
        for lamp in range(len(hall)):
            other = turned(hall, arrow, lamp)
            if other[lamp] >= 0 and sum(other) <= height and other not in found:
                found[other] = True
                fresh.append(other)
    return [arrow for _, arrow in sorted([(sum(arrow), arrow) for arrow in found])]


def families(hall):
    """The families of arrows that differ by the load, some number of times, each told by what is left of its arrows.

    Left is an arrow less the load as many times as the arrow's integer of the load's lamp tells. For each
    family it is told how many times that is for the least arrow that points up, and how many times more the
    load is in the next one, and in each further one. The least one less the load, as many times, points down,
    so it is not higher than the load as many times, and the next one not higher than that twice.
    """
    worth = whole_load(hall)
    lamp = lamp_of_load(worth)
    times = {}
    for arrow in low_arrows(hall, 2 * MOST_REPEAT * sum(worth)):
        times.setdefault(left_of(arrow, worth), []).append(arrow[lamp])
    return {left: (told[0], told[1] - told[0]) for left, told in times.items()}


def lamp_of_load(worth):
    """The first lamp whose load is 1: such a lamp's integer tells how many times the load is in an arrow."""
    return worth.index(1)


def left_of(arrow, worth):
    """What is left of an arrow less the load as many times as its integer of the load's lamp tells."""
    times = arrow[lamp_of_load(worth)]
    return tuple([own - times * each for own, each in zip(arrow, worth)])


def repeat_by(hall, value):
    """The repeat of a value if it is an arrow, None for any other one."""
    if not is_numbers(hall, value):
        return None
    worth = whole_load(hall)
    known = families(hall)
    left = left_of(value, worth)
    if left not in known:
        return None
    least, repeat = known[left]
    return repeat if (value[lamp_of_load(worth)] - least) % repeat == 0 else None


def is_flat_arrow(hall, value):
    """Whether a value is an arrow."""
    need_flat(hall)
    return repeat_by(hall, value) is not None


def arrows_to(hall, height):
    """All arrows that point up and have at most a height, the lesser heights first, those of one height ascending."""
    need_flat(hall)
    if not is_integer_between(height, 0, MOST_HEIGHT):
        raise BadHeight()
    return low_arrows(hall, height)


def repeat_of(hall, arrow):
    """The least number, from 1 on, of times the load must be added to an arrow that there is an arrow again."""
    need_flat(hall)
    repeat = repeat_by(hall, arrow)
    if repeat is None:
        raise BadArrow()
    return repeat


def presses_far(hall, start):
    """How many presses the plays of a start have, however many they are, None if none ends.

    There is one for each arrow that points up and by which the start's sum is below 0. In each family the sum
    grows from each arrow to the next one by the level, as many times as its repeat.
    """
    need_flat(hall)
    need_numbers(hall, start)
    if paper_of(hall, start) is not None:
        return None
    own_level = sum_by(whole_load(hall), start)
    many = 0
    for left, (times, repeat) in families(hall).items():
        least = sum_by(left, start) + times * own_level
        if least < 0:
            # As many as it takes to come from the least sum to 0 or more.
            many = many - least // (repeat * own_level)
    return many
