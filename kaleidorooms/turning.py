"""Turned halls: orders that leave a hall as it is, halls folded by them, and halls beside each other."""

from kaleidorooms.arrows import need_ending
from kaleidorooms.checks import is_integers
from kaleidorooms.errors import BadNumbers, BadTurn, CannotFold, NotFixed, TooLong, TooMany, TooWide
from kaleidorooms.halls import MOST_LAMPS, Hall, is_order, picked
from kaleidorooms.plays import need_numbers
from kaleidorooms.rooms import MOST_ROOMS, first_numbers
from kaleidorooms.suites import farthest_of
from kaleidorooms.words import MOST_LETTERS, need_word

MOST_TURNS = 2000


def need_turn(hall, turn):
    """Raises BadTurn for any value that is no order by which the hall renamed is the hall itself."""
    if not is_order(hall, turn) or picked(hall, turn) != hall:
        raise BadTurn()


def turns(hall):
    """The ascending list of all turns."""
    need_ending(hall)
    found = []
    left = [()]
    # The last one is taken first, so the greater ones are put ahead of the lesser ones.
    while left:
        begun = left.pop()
        if len(begun) < len(hall):
            left = left + [begun + (lamp,) for lamp in range(len(hall) - 1, -1, -1) if may_follow(hall, begun, lamp)]
        else:
            found.append(begun)
        if len(found) > MOST_TURNS:
            raise TooMany(MOST_TURNS)
    return found


def may_follow(hall, begun, lamp):
    """Whether a lamp may stand behind the first ones of a turn."""
    place = len(begun)
    if lamp in begun:
        return False
    there = [(hall.pushes[place][at], hall.pushes[at][place]) for at in range(place)]
    return there == [(hall.pushes[lamp][other], hall.pushes[other][lamp]) for other in begun]


def turned_numbers(hall, turn, numbers):
    """The numbers in which each lamp has the number of the lamp that stands in its place in a turn."""
    need_ending(hall)
    need_turn(hall, turn)
    need_numbers(hall, numbers)
    return tuple([numbers[lamp] for lamp in turn])


def turn_rings(hall, turn):
    """The ascending list of all rings of a turn."""
    need_ending(hall)
    need_turn(hall, turn)
    return rings_of(turn)


def rings_of(turn):
    """The list that turn_rings is."""
    rings = [ring_with(turn, lamp) for lamp in range(len(turn))]
    return [ring for lamp, ring in enumerate(rings) if ring[0] == lamp]


def ring_with(turn, lamp):
    """The ring of which a lamp is one."""
    ring = [lamp]
    while turn[ring[-1]] != lamp:
        ring.append(turn[ring[-1]])
    return tuple(sorted(ring))


def can_fold(hall, turn):
    """Whether no lamp pushes one of its own ring."""
    need_ending(hall)
    need_turn(hall, turn)
    return is_foldable(hall, turn)


def is_foldable(hall, turn):
    """Whether no lamp pushes one of its own ring."""
    return all([hall.pushes[one][other] == 0 for ring in rings_of(turn) for one in ring for other in ring])


def need_foldable(hall, turn):
    """Raises BadTurn for any value that is no turn, CannotFold for one by which a hall cannot be folded."""
    need_turn(hall, turn)
    if not is_foldable(hall, turn):
        raise CannotFold()


def folded(hall, turn):
    """The hall with a lamp for each ring of a turn."""
    need_ending(hall)
    need_foldable(hall, turn)
    return folded_by(hall, turn)


def folded_by(hall, turn):
    """The hall that folded is."""
    rings = rings_of(turn)
    rows = [[sum([hall.pushes[lamp][other[0]] for lamp in ring]) for other in rings] for ring in rings]
    return Hall(tuple([tuple(row) for row in rows]))


def ring_values(hall, turn, numbers):
    """The number of each ring's lamps, of numbers that a turn leaves as they are."""
    need_ending(hall)
    need_turn(hall, turn)
    need_numbers(hall, numbers)
    if any([numbers[lamp] != numbers[other] for lamp, other in enumerate(turn)]):
        raise NotFixed()
    return tuple([numbers[ring[0]] for ring in rings_of(turn)])


def spread_numbers(hall, turn, numbers):
    """The numbers in which each lamp has that of its ring."""
    need_ending(hall)
    need_turn(hall, turn)
    rings = rings_of(turn)
    if not is_integers(numbers, len(rings)):
        raise BadNumbers()
    by_lamps = sorted([(lamp, number) for ring, number in zip(rings, numbers) for lamp in ring])
    return tuple([number for _, number in by_lamps])


def spread_word(hall, turn, word):
    """The word with the lamps of a ring, ascending, in the place of each letter of a word of the folded hall."""
    need_ending(hall)
    need_foldable(hall, turn)
    need_word(folded_by(hall, turn), word)
    rings = rings_of(turn)
    spread = tuple([lamp for letter in word for lamp in rings[letter]])
    if len(spread) > MOST_LETTERS:
        raise TooLong(MOST_LETTERS)
    return spread


def fixed_rooms(hall, turn):
    """The ascending list of all rooms that a turn leaves as they are.

    In such a room the lamps of a ring are all above 0, or all below 0; if they are below 0, the nearest room of
    its suite by the ring is such a room, too. So all are found by going to farthest rooms of suites by rings.
    """
    need_ending(hall)
    need_turn(hall, turn)
    rings = rings_of(turn)
    found = {first_numbers(hall): True}
    fresh = list(found)
    while fresh:
        room = fresh.pop()
        for ring in rings:
            far = farthest_of(hall, room, ring)
            if far not in found:
                found[far] = True
                fresh.append(far)
        if len(found) > MOST_ROOMS:
            raise TooMany(MOST_ROOMS)
    return sorted(found)


def beside(one, other):
    """The hall with the lamps of one hall, then those of another one, of which none of one pushes one of other."""
    need_ending(one)
    need_ending(other)
    if len(one) + len(other) > MOST_LAMPS:
        raise TooWide()
    ahead = [row + (0,) * len(other) for row in one.pushes]
    return Hall(tuple(ahead + [(0,) * len(one) + row for row in other.pushes]))
