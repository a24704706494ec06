"""How many suites there are, their nearest rooms, and rooms by their walls home (points 31 and 34)."""

from kaleidorooms.arrows import need_ending, sum_by, up_arrows
from kaleidorooms.errors import TooMany
from kaleidorooms.halls import lamps_beside, need_lamps
from kaleidorooms.heights import distances_by_steps, part_steps, rooms_by_steps, steps_of, without_step
from kaleidorooms.mirrorrooms import over_mirror
from kaleidorooms.plays import below_lamps
from kaleidorooms.rooms import MOST_ROOMS, first_numbers
from kaleidorooms.suites import every_room, farthest_of


def count_suites(hall, lamps):
    """How many suites there are."""
    need_ending(hall)
    need_lamps(hall, lamps)
    return suites_by(hall, lamps)


def suites_by(hall, lamps):
    """How many suites there are: all have as many rooms as the hall of the open lamps."""
    return rooms_by_steps(steps_of(hall)) // rooms_by_steps(part_steps(hall, lamps))


def nearest_rooms(hall, lamps):
    """The nearest rooms of all suites, the lesser distances first, those of one distance ascending."""
    need_ending(hall)
    need_lamps(hall, lamps)
    if suites_by(hall, lamps) > MOST_ROOMS:
        raise TooMany(MOST_ROOMS)
    mirrors = up_arrows(hall)
    found = []
    rows = [first_numbers(hall)]
    while rows:
        found = found + rows
        rows = one_letter_ahead(mirrors, rows, lamps)
    return found


def one_letter_ahead(mirrors, rows, lamps):
    """The ascending list of the nearest rooms to which words of some rooms lead with one letter more ahead.

    The room to which a word leads with a letter ahead of it is over the mirror of the arrow that the letter's
    unit becomes by the word; the sum of the word's room by it is 1. Without its first letter a shortest word
    to a nearest room leads to a nearest one, too, so all are found.
    """
    after = {}
    for room in rows:
        for arrow, taken in mirrors.items():
            if sum_by(arrow, room) == 1:
                beyond = over_mirror(room, arrow, taken)
                if all([beyond[lamp] > 0 for lamp in lamps]):
                    after[beyond] = True
    return sorted(after)


def suites_by_distance(hall, lamps):
    """How many nearest rooms are at the distance 0, 1 and so on."""
    need_ending(hall)
    need_lamps(hall, lamps)
    counts = distances_by_steps(steps_of(hall))
    # Each room is split into a nearest one and one of the part, and their distances are added.
    for step in part_steps(hall, lamps):
        counts = without_step(counts, step)
    return tuple(counts)


def last_room(hall, lamps):
    """The farthest room of the suite of the first room."""
    need_ending(hall)
    need_lamps(hall, lamps)
    return farthest_of(hall, first_numbers(hall), lamps)


def count_with_home(hall, lamps):
    """How many rooms have just these lamps as walls home.

    There are as many rooms without walls home beside a lot as suites by all lamps beside it.
    """
    need_ending(hall)
    need_lamps(hall, lamps)
    many = 0
    for lot in lots_of(lamps):
        suites = suites_by(hall, lamps_beside(hall, lot))
        many = many + suites if (len(lamps) - len(lot)) % 2 == 0 else many - suites
    return many


def lots_of(lamps):
    """All tuples of some lamps, in their order, none and all among them."""
    lots = [()]
    for lamp in lamps:
        lots = lots + [lot + (lamp,) for lot in lots]
    return lots


def rooms_with_home(hall, lamps):
    """The rooms with just these lamps as walls home, the lesser distances first, those of one distance ascending."""
    need_ending(hall)
    need_lamps(hall, lamps)
    return [room for room in every_room(hall) if below_lamps(room) == lamps]
