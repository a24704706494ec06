"""Round rooms, and the rooms on the round of an order (point 57)."""

from kaleidorooms.arrows import need_ending, up_arrows
from kaleidorooms.errors import TooMany
from kaleidorooms.halls import all_lamps, need_order, wings
from kaleidorooms.heights import part_steps
from kaleidorooms.jumps import behind_units, changes, is_sum, jumped_over
from kaleidorooms.rooms import MOST_ROOMS, first_numbers
from kaleidorooms.words import room_behind


def round_room(hall, order):
    """The room to which a word leads that has each lamp once."""
    need_ending(hall)
    need_order(hall, order)
    return room_behind(hall, order)


def on_round(hall, order):
    """All rooms on the round of an order, those that need fewer jumps ahead, those that need as many ascending."""
    need_ending(hall)
    need_order(hall, order)
    return [room for rows in round_levels(hall, order) for room in rows]


def round_levels(hall, order):
    """The ascending lists of the rooms on the round that need no jump, one, two and so on, TooMany if too many.

    With each room it is kept what its words make of the units behind the round word read backwards. A jump from
    the room leads on just if it takes one off the jumps that are left.
    """
    if count_on_round(hall) > MOST_ROOMS:
        raise TooMany(MOST_ROOMS)
    ups = up_arrows(hall)
    levels = []
    level = {first_numbers(hall): behind_units(hall, order[::-1])}
    while level:
        levels.append(sorted(level))
        after = {}
        for room, images in level.items():
            rows = changes(hall, images)
            for arrow in [arrow for arrow in ups if is_sum(rows, arrow)]:
                after[jumped_over(ups, room, (arrow,))] = [jumped_over(ups, image, (arrow,)) for image in images]
        level = after
    return levels


def count_round(hall):
    """How many rooms are on the round of any order."""
    need_ending(hall)
    return count_on_round(hall)


def count_on_round(hall):
    """The number that count_round is: by the steps of each wing."""
    many = 1
    for wing in wings(hall):
        told = part_steps(hall, wing)
        for step in told:
            many = many * (step + max(told) + 2)
        for step in told:
            many = many // (step + 1)
    return many


def round_by_jumps(hall):
    """How many rooms on the round of any order need no jump, one, two and so on."""
    need_ending(hall)
    return tuple([len(rows) for rows in round_levels(hall, all_lamps(hall))])
