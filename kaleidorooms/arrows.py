"""Arrows: what comes from units by turnings, and points up or down (points 17 and 18)."""

from kaleidorooms.errors import BadArrow, NotEnding
from kaleidorooms.halls import is_lamp, lamps_beside, need_hall, need_lamp, wings
from kaleidorooms.loads import ENDING, kind_of, need_wing
from kaleidorooms.plays import crossed, is_numbers, need_numbers


def need_ending(hall):
    """Raises BadHall for any value that is no hall, NotEnding for a hall of which some wing is not ending."""
    need_hall(hall)
    if any([kind_of(hall, wing) != ENDING for wing in wings(hall)]):
        raise NotEnding()


def turned(hall, arrow, lamp):
    """An arrow turned by a lamp."""
    own = sum([its * times for its, times in zip(arrow, hall.pushes[lamp])]) - arrow[lamp]
    return arrow[:lamp] + (own,) + arrow[lamp + 1:]


def units(hall):
    """The units, that of the first lamp first."""
    many = len(hall)
    return [(0,) * lamp + (1,) + (0,) * (many - lamp - 1) for lamp in range(many)]


def signs_turned(integers):
    """The integers of an arrow, or of a room, with turned signs."""
    return tuple([-own for own in integers])


def turned_by(hall, arrow, lamps):
    """An arrow turned by lamps, one by one."""
    for lamp in lamps:
        arrow = turned(hall, arrow, lamp)
    return arrow


def up_arrows(hall):
    """All arrows that point up, in their order, as the keys of a dict.

    Each is given what going over its mirror takes off numbers, for each 1 of their sum by the arrow. To each
    one comes from some unit by turnings between arrows that point up.
    """
    found = {unit: taken_off(hall, lamp) for lamp, unit in enumerate(units(hall))}
    fresh = list(found)
    while fresh:
        arrow = fresh.pop()
        for lamp in range(len(hall)):
            other = turned(hall, arrow, lamp)
            if other[lamp] >= 0 and other not in found:
                # To go over the other mirror is to go through the wall, over this mirror, and back through the wall.
                found[other] = crossed(hall, found[arrow], lamp)
                fresh.append(other)
    ordered = sorted([(sum(arrow), arrow) for arrow in found])
    return {arrow: found[arrow] for _, arrow in ordered}


def taken_off(hall, lamp):
    """What going through the wall of a lamp takes off numbers, for each 1 of the lamp's number."""
    return tuple([2 if at == lamp else -times for at, times in enumerate(hall.pushes[lamp])])


def is_arrow(hall, value):
    """Whether a value is an arrow."""
    need_ending(hall)
    return is_one_of(hall, up_arrows(hall), value)


def is_one_of(hall, ups, value):
    """Whether a value is one of the arrows that point up, or the opposite of one."""
    return is_numbers(hall, value) and (value in ups or signs_turned(value) in ups)


def need_arrow(hall, arrow):
    """Raises BadArrow for any value that is no arrow."""
    if not is_one_of(hall, up_arrows(hall), arrow):
        raise BadArrow()


def arrows(hall):
    """All arrows that point up, the lesser heights first, those of one height ascending."""
    need_ending(hall)
    return list(up_arrows(hall))


def turned_arrow(hall, arrow, lamp):
    """An arrow turned by a lamp."""
    need_ending(hall)
    need_arrow(hall, arrow)
    need_lamp(hall, lamp)
    return turned(hall, arrow, lamp)


def sum_by(arrow, numbers):
    """The sum of numbers by an arrow."""
    return sum([own * number for own, number in zip(arrow, numbers)])


def arrow_sum(hall, arrow, numbers):
    """The sum of numbers by an arrow."""
    need_ending(hall)
    need_arrow(hall, arrow)
    need_numbers(hall, numbers)
    return sum_by(arrow, numbers)


def turns_to_unit(hall):
    """How many turnings each arrow needs at least to become a unit."""
    level = units(hall)
    far = {unit: 0 for unit in level}
    turns = 0
    while level:
        turns = turns + 1
        after = []
        for arrow in level:
            for lamp in range(len(hall)):
                other = turned(hall, arrow, lamp)
                if other not in far:
                    far[other] = turns
                    after.append(other)
        level = after
    return far


def way_to_unit(hall, arrow):
    """The least of the shortest tuples of lamps by which an arrow becomes a unit."""
    need_ending(hall)
    need_arrow(hall, arrow)
    return way_of(hall, arrow)


def way_of(hall, arrow):
    """The way that way_to_unit is."""
    far = turns_to_unit(hall)
    way = []
    while far[arrow] > 0:
        lamp = min([at for at in range(len(hall)) if far[turned(hall, arrow, at)] < far[arrow]])
        way.append(lamp)
        arrow = turned(hall, arrow, lamp)
    return tuple(way)


def shows_way(hall, arrow, value):
    """Whether a value is a tuple of lamps by which an arrow becomes a unit."""
    need_ending(hall)
    need_arrow(hall, arrow)
    if not isinstance(value, tuple) or not all([is_lamp(hall, lamp) for lamp in value]):
        return False
    return turned_by(hall, arrow, value) in units(hall)


def greatest_arrow(hall, wing):
    """The arrow of the greatest height of those that are 0 for all lamps beside a wing."""
    need_ending(hall)
    need_wing(hall, wing)
    beside = lamps_beside(hall, wing)
    within = [arrow for arrow in up_arrows(hall) if all([arrow[lamp] == 0 for lamp in beside])]
    return within[-1]
