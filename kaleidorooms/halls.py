"""Halls: which lamps push which ones, and how many times (point 2)."""

from kaleidorooms.checks import is_ascending, is_integer_between, is_integers
from kaleidorooms.errors import BadHall, BadLamp, BadLamps, BadOrder, BadPushes, Lopsided

MOST_LAMPS = 8
MOST_TIMES = 4
# The bonds of two lamps, by the product of their pushes; a greater product has none.
BONDS = (2, 3, 4, 6)


class Hall:
    """Lamps that push each other."""

    def __init__(self, pushes):
        check_pushes(pushes)
        check_both_push(pushes)
        self._pushes = pushes

    @property
    def pushes(self):
        return self._pushes

    def __len__(self):
        return len(self._pushes)

    def __eq__(self, other):
        return isinstance(other, Hall) and self._pushes == other._pushes


def check_pushes(pushes):
    """Raises BadPushes for any value of pushes whose form is wrong."""
    if not isinstance(pushes, tuple) or not 1 <= len(pushes) <= MOST_LAMPS:
        raise BadPushes(None)
    for lamp, row in enumerate(pushes):
        if not is_row(row, lamp, len(pushes)):
            raise BadPushes(lamp)


def is_row(value, lamp, many):
    """Whether a value tells how many times a lamp pushes each of so many lamps."""
    if not is_integers(value, many) or value[lamp] != 0:
        return False
    return all([0 <= times <= MOST_TIMES for times in value])


def check_both_push(pushes):
    """Raises Lopsided with the least pair of lamps of which just one pushes the other one."""
    for one in range(len(pushes)):
        for other in range(one + 1, len(pushes)):
            if (pushes[one][other] == 0) != (pushes[other][one] == 0):
                raise Lopsided(one, other)


def need_hall(hall):
    """Raises BadHall for any value that is no hall."""
    if not isinstance(hall, Hall):
        raise BadHall()


def is_lamp(hall, value):
    """Whether a value is a lamp of a hall."""
    return is_integer_between(value, 0, len(hall) - 1)


def need_lamp(hall, lamp):
    """Raises BadLamp for any value that is no lamp of a hall."""
    if not is_lamp(hall, lamp):
        raise BadLamp()


def all_lamps(hall):
    """The ascending tuple of all lamps of a hall."""
    return tuple(range(len(hall)))


def lamps_beside(hall, lamps):
    """The ascending tuple of the lamps of a hall that are none of some lamps."""
    return tuple([lamp for lamp in range(len(hall)) if lamp not in lamps])


def is_lamps(hall, value):
    """Whether a value is an ascending tuple of unlike lamps of a hall, perhaps empty."""
    return is_ascending(value, len(hall))


def need_lamps(hall, lamps):
    """Raises BadLamps for any value that is no ascending tuple of unlike lamps of a hall, perhaps empty."""
    if not is_lamps(hall, lamps):
        raise BadLamps()


def need_some_lamps(hall, lamps):
    """Raises BadLamps for any value that is no ascending tuple of unlike lamps of a hall, and for none."""
    need_lamps(hall, lamps)
    if not lamps:
        raise BadLamps()


def neighbours(hall, lamp):
    """The ascending tuple of the lamps that a lamp pushes."""
    need_hall(hall)
    need_lamp(hall, lamp)
    return pushed_lamps(hall, lamp)


def pushed_lamps(hall, lamp):
    """The lamps that a lamp pushes."""
    return tuple([other for other, times in enumerate(hall.pushes[lamp]) if times > 0])


def wings(hall):
    """The ascending list of all wings."""
    need_hall(hall)
    found = []
    seen = {}
    for lamp in range(len(hall)):
        if lamp not in seen:
            wing = wing_with(hall, lamp)
            found.append(wing)
            for member in wing:
                seen[member] = True
    return found


def wing_with(hall, lamp):
    """The wing of which a lamp is one."""
    members = {lamp: True}
    fresh = [lamp]
    while fresh:
        last = fresh.pop()
        for other in pushed_lamps(hall, last):
            if other not in members:
                members[other] = True
                fresh.append(other)
    return tuple(sorted(members))


def bond(hall, one, other):
    """The bond of two lamps, None if they have none."""
    need_hall(hall)
    need_lamp(hall, one)
    need_lamp(hall, other)
    return bond_of(hall, one, other)


def bond_of(hall, one, other):
    """The bond of two lamps."""
    if one == other:
        return 1
    times = hall.pushes[one][other] * hall.pushes[other][one]
    return BONDS[times] if times < len(BONDS) else None


def part_of(hall, lamps):
    """The hall of some lamps, in their order."""
    need_hall(hall)
    need_some_lamps(hall, lamps)
    return picked(hall, lamps)


def renamed(hall, order):
    """The hall in which each lamp is the one that stands in its place in an order."""
    need_hall(hall)
    need_order(hall, order)
    return picked(hall, order)


def is_order(hall, value):
    """Whether a value is a tuple of all lamps, each once."""
    return is_integers(value, len(hall)) and tuple(sorted(value)) == all_lamps(hall)


def need_order(hall, order):
    """Raises BadOrder for any value that is no tuple of all lamps, each once."""
    if not is_order(hall, order):
        raise BadOrder()


def picked(hall, lamps):
    """The hall of some lamps, in the order in which they are told."""
    return Hall(tuple([tuple([hall.pushes[one][other] for other in lamps]) for one in lamps]))
