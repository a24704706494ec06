"""Loads: what tells of a wing whether plays in it come to an end (points 3 and 4)."""

from kaleidorooms.checks import is_integers
from kaleidorooms.errors import BadWing
from kaleidorooms.halls import bond_of, need_hall, pushed_lamps, wings

ENDING = "ending"
FLAT = "flat"
WILD = "wild"
KINDS = ("ending", "flat", "wild")


def is_wing(hall, value):
    """Whether a value is a wing of a hall."""
    return isinstance(value, tuple) and is_integers(value, len(value)) and value in wings(hall)


def need_wing(hall, wing):
    """Raises BadWing for any value that is no wing of a hall."""
    if not is_wing(hall, wing):
        raise BadWing()


def kind(hall, wing):
    """The kind of which a wing has loads."""
    need_hall(hall)
    need_wing(hall, wing)
    return kind_of(hall, wing)


def kinds(hall):
    """The kinds of all wings, in the order of wings."""
    need_hall(hall)
    return tuple([kind_of(hall, wing) for wing in wings(hall)])


def kind_of(hall, wing):
    """The kind of a wing, by the signs of the minors at the upper left of its square of 2s less pushes.

    All above 0 there are an ending wing's; if just the last is 0, it is flat; else it is wild.
    """
    size = len(wing)
    square = [[2 if one == other else -hall.pushes[one][other] for other in wing] for one in wing]
    before = 1
    for step in range(size):
        minor = square[step][step]
        if minor <= 0:
            return FLAT if minor == 0 and step == size - 1 else WILD
        for row in range(step + 1, size):
            for column in range(step + 1, size):
                crosswise = square[row][step] * square[step][column]
                # The minor ahead divides this without a rest, so all stays whole.
                square[row][column] = (square[row][column] * minor - crosswise) // before
        before = minor
    return ENDING


def weights(hall, wing, worth):
    """What the pushes of each lamp of a wing weigh by a load."""
    return [sum([hall.pushes[lamp][other] * own for other, own in zip(wing, worth)]) for lamp in wing]


def is_load(wing, value):
    """Whether a value is a load of a wing."""
    return is_integers(value, len(wing)) and all([own >= 1 for own in value])


def kind_by(hall, wing, worth):
    """The kind of which a load is, None if it is of none."""
    spare = [2 * own - weight for own, weight in zip(worth, weights(hall, wing, worth))]
    if all([rest > 0 for rest in spare]):
        return ENDING
    if all([rest == 0 for rest in spare]):
        return FLAT
    return WILD if all([rest < 0 for rest in spare]) else None


def load(hall, wing):
    """The least load of the wing's kind, for a wild wing any one."""
    need_hall(hall)
    need_wing(hall, wing)
    word = kind_of(hall, wing)
    if word == WILD:
        return wild_load(hall, wing)
    return least_load(hall, wing, 1 if word == ENDING else 0)


def flat_load(hall, wing):
    """The least load of a flat wing."""
    return least_load(hall, wing, 0)


def least_load(hall, wing, spare):
    """The least load by which twice each lamp's integer is as much as its pushes weigh and a spare more.

    No integer is ever raised above that of any such load, and in ending and flat wings there is one.
    (In a flat wing a load by which none has too little is one by which all have just as much.)
    """
    worth = [1] * len(wing)
    higher = raised(hall, wing, worth, spare)
    while higher != worth:
        worth = higher
        higher = raised(hall, wing, worth, spare)
    return tuple(worth)


def raised(hall, wing, worth, spare):
    """The integers of a load, those raised that have too little beside what their lamps' pushes weigh."""
    lowest = [(weight + spare + 1) // 2 for weight in weights(hall, wing, worth)]
    return [max(own, low) for own, low in zip(worth, lowest)]


def wild_load(hall, wing):
    """Some load of a wild wing.

    Each lamp is given what its pushes weigh, again and again: the load comes near the one by which all
    weights are the same many times the lamps' own integers, more than twice in a wild wing.
    """
    worth = [1] * len(wing)
    while kind_by(hall, wing, worth) != WILD:
        worth = [own + weight for own, weight in zip(worth, weights(hall, wing, worth))]
    return tuple(worth)


def shows_kind(hall, wing, value):
    """Whether a value is a pair of a kind and a load of this kind of a wing."""
    need_hall(hall)
    need_wing(hall, wing)
    if not isinstance(value, tuple) or len(value) != 2:
        return False
    word, worth = value
    return word in KINDS and is_load(wing, worth) and kind_by(hall, wing, worth) == word


def name_of(hall, wing):
    """The name of an ending wing, None for any other wing."""
    need_hall(hall)
    need_wing(hall, wing)
    if kind_of(hall, wing) != ENDING:
        return None
    return (letter_of(hall, wing), len(wing))


def letter_of(hall, wing):
    """The letter of the name of an ending wing."""
    for lamp in wing:
        if len(pushed_lamps(hall, lamp)) == 3:
            return fork_letter(hall, lamp)
    for one in wing:
        for other in pushed_lamps(hall, one):
            # Of two lamps with a bond of 4 or 6 just one pushes the other one more than once.
            if hall.pushes[one][other] > 1:
                return strong_letter(hall, wing, one, other)
    return "a"


def fork_letter(hall, lamp):
    """The letter of an ending wing in which a lamp has three neighbours."""
    tips = [other for other in pushed_lamps(hall, lamp) if is_end(hall, other)]
    return "d" if len(tips) >= 2 else "e"


def strong_letter(hall, wing, one, other):
    """The letter of an ending chain in which one lamp pushes another one more than once."""
    if bond_of(hall, one, other) == 6:
        return "g"
    if is_end(hall, other):
        return "b"
    return "c" if is_end(hall, one) else "f"


def is_end(hall, lamp):
    """Whether a lamp has just one neighbour."""
    return len(pushed_lamps(hall, lamp)) == 1
