"""Wrong values for each kind of argument, with the errors that they raise."""

from kaleidorooms import errors
from tests.helpers import ENDLESS_HALLS, FULL, NO_INTEGERS, Wrong, wrongs

# Values that are of none of the kinds that a function asks for.
ODD_VALUES = NO_INTEGERS + ["lamp", b"", [], [[]], ((),), (None,), (True,), {"a": (1,)}, -1, 10 ** 40, (1, "a"), [0, 1]]


def unlike(values, *right):
    """The values that are none of the right ones."""
    return [value for value in values if not any(repr(value) == repr(one) for one in right)]


HALL = wrongs(errors.BadHall, ODD_VALUES + [((0,),), ((0, 1), (1, 0))])
NOTHING = []


def lamp(hall):
    """Wrong values of a lamp."""
    return wrongs(errors.BadLamp, NO_INTEGERS + [-1, len(hall), 10 ** 30, "a", [1], (0, 1)])


def numbers(hall):
    """Wrong values of numbers and starts."""
    many = len(hall)
    one = (1,) * (many - 1)
    values = ODD_VALUES + [[1] * many, (1,) * (many + 1), one, one + (True,), (False,) + one, one + (None,)]
    values += [one + ("1",), one + ((1,),), one + ([1],), "1" * many, {lamp: 1 for lamp in range(many)}]
    return wrongs(errors.BadNumbers, unlike(values, (0,)) if many == 1 else values)


def wing(hall):
    """Wrong values of a wing, of a hall whose first wing is (0, 1) and has no wing (2, 3)."""
    values = ODD_VALUES + [[0, 1], (1, 0), (0, True), (False, 1), (0,), (0, 1, 2), (0, 0), (2, 3), (0, 1, 1), "01"]
    return wrongs(errors.BadWing, values + [{0: 1}, (0, len(hall)), ((0, 1),)])


def order(hall):
    """Wrong values of an order."""
    right = tuple(range(len(hall)))
    values = ODD_VALUES + [list(right), right[:-1], right + (len(hall),), right[:-1] + (0,), right[:-1] + (len(hall),)]
    values += [right[:1] + (True,) + right[2:], (-1,) + right[1:], (None,) + right[1:], ("a",) + right[1:]]
    return wrongs(errors.BadOrder, values)


def part_lamps(hall):
    """Wrong values of lamps that are not none."""
    values = [[0, 1], (1, 0), (0, 0), (0, len(hall)), (-1, 0), (0, True), (False, 1), range(2)]
    return wrongs(errors.BadLamps, unlike(ODD_VALUES, (0,)) + values)


def play(hall, start, right):
    """Wrong values of a play of a start, of which a right one is told."""
    from kaleidorooms.plays import able, behind

    left = able(hall, behind(hall, start, right))
    stuck = [one for one in range(len(hall)) if one not in left]
    values = [None, True, 0, "", "0", [], list(right), {}, {0: 0}, range(3), (0,) * 5001, right + (None,) * 5001]
    found = wrongs(errors.BadPlay, values, index=None)
    things = [None, True, False, "0", (), (0,), [0], {}, -1, len(hall), 10 ** 20] + stuck
    return found + wrongs(errors.BadPlay, [right + (thing,) for thing in things], index=len(right))


def many():
    """Wrong values of many."""
    return wrongs(errors.BadMany, NO_INTEGERS + [-1, 21, 10 ** 30])


def room(hall, *others):
    """Wrong values of a room, others among them that are numbers."""
    listed = [wrong.value for wrong in numbers(hall)]
    return wrongs(errors.BadRoom, listed + [(0,) * len(hall), (1,) * (len(hall) - 1) + (2,)] + list(others))


def word(hall, *right):
    """Wrong values of a word, that begin with a right one where the index is told."""
    lamps = tuple(right)
    values = [None, True, 0, "", "0", [], list(lamps), {}, {0: 0}, (0,) * 61, (None,) * 61, range(2), b"", -1]
    found = wrongs(errors.BadWord, values, index=None)
    for thing in [None, True, False, "0", (), (0,), [0], {}, -1, len(hall), 10 ** 20]:
        found += wrongs(errors.BadWord, [lamps + (thing,), lamps + (thing, 0, thing)], index=len(lamps))
        found += wrongs(errors.BadWord, [(thing,) + (0,) * 59], index=0)
    return found


def arrow(hall, *others):
    """Wrong values of an arrow, others among them that are numbers."""
    many = len(hall)
    listed = [wrong.value for wrong in numbers(hall)]
    values = [(0,) * many, (2,) + (0,) * (many - 1), (10 ** 30,) * many, (-3,) + (0,) * (many - 1)] + list(others)
    return wrongs(errors.BadArrow, listed + values)


def lot(hall, right, *others):
    """Wrong values of a lot, of which one that is right, not empty, is told; others are no arrows that point up."""
    values = [None, True, 0, 1, "", "ab", {}, {right[0]: True}, -1, range(0), b""]
    found = wrongs(errors.BadArrows, values, index=None)
    things = [wrong.value for wrong in arrow(hall)] + [tuple([-own for own in right[0]])] + list(others)
    for thing in things + [right[0]]:
        found += wrongs(errors.BadArrows, [list(right) + [thing], tuple(right) + (thing, None)], index=len(right))
    for thing in things:
        found += wrongs(errors.BadArrows, [[thing, right[0], right[0]], (thing,)], index=0)
    return found


def turn(hall, *others):
    """Wrong values of a turn, others among them that are orders."""
    listed = [wrong.value for wrong in order(hall)]
    return wrongs(errors.BadTurn, unlike(listed, tuple(range(len(hall)))) + list(others))


def prices(hall):
    """Wrong values of prices."""
    more = [(price,) * len(hall) for price in (-1, 10, 10 ** 30)] + [(0,) * (len(hall) - 1) + (10,)]
    return wrongs(errors.BadPrices, [wrong.value for wrong in numbers(hall)] + more)


def log(hall, *right):
    """Wrong values of a log, that begin with right entries, at most five of them lost, where the index is told."""
    many = len(hall)
    lost = ("lost",)
    values = [None, True, 0, -1, "", "lost", b"", [], list(right), [lost], {}, {0: lost}, (lost,) * 21, (None,) * 21]
    found = wrongs(errors.BadLog, values, index=None)
    things = [None, True, 0, "lost", "", (), [], ["lost"], ["pressed", 0], {}, (lost,), ("lost", 0), ("lost", ()), (0,)]
    things += [("pressed",), ("pressed", 0, 0), ("seen", 0), ("seen",), ("seen", 0, 0, 0), ("told", 0), ("Lost",)]
    for wrong in (None, True, False, -1, many, 10 ** 30, "0", (0,), [0], {}):
        things += [("pressed", wrong), ("seen", wrong, 0)]
    things += [("seen", 0, wrong) for wrong in NO_INTEGERS] + [(True, 0), (None, 0, 0), ((), 0), (["lost"],)]
    for thing in things:
        found += wrongs(errors.BadLog, [right + (thing,), right + (thing, None)], index=len(right))
        found += wrongs(errors.BadLog, [(thing,) + (lost,) * 7, (thing, thing)], index=0)
    seen = ("seen", 0, 0)
    found += wrongs(errors.BadLog, [(lost,) * 7, (lost,) * 20, (lost,) * 6 + (None,), (lost,) * 7 + (None,)], index=6)
    return found + wrongs(errors.BadLog, [(lost, seen) * 10, (lost, seen) * 6 + (lost, None)], index=12)


NOT_ENDING = HALL + wrongs(errors.NotEnding, ENDLESS_HALLS + [FULL])

__all__ = [
    "HALL", "NOTHING", "NOT_ENDING", "ODD_VALUES", "Wrong", "arrow", "lamp", "log", "lot", "many", "numbers", "order",
    "part_lamps", "play", "prices", "room", "turn", "unlike", "wing", "word",
]
