"""Mirrors: which arrows part a room, and which lots part none (points 19 and 20)."""

from kaleidorooms.arrows import need_ending, sum_by, turned, units, up_arrows
from kaleidorooms.errors import BadArrows
from kaleidorooms.plays import is_numbers
from kaleidorooms.rooms import need_room
from kaleidorooms.words import room_behind


def mirrors_of(hall, room):
    """The list of all arrows that part a room, in the order of arrows."""
    need_ending(hall)
    need_room(hall, room)
    return [arrow for arrow in up_arrows(hall) if sum_by(arrow, room) < 0]


def lot_of(hall, ups, lot):
    """The arrows of a lot, as the keys of a dict; BadArrows for any value that is no lot."""
    if not isinstance(lot, (list, tuple)):
        raise BadArrows(None)
    inside = {}
    for index, arrow in enumerate(lot):
        if not is_up(hall, ups, arrow) or arrow in inside:
            raise BadArrows(index)
        inside[arrow] = True
    return inside


def is_up(hall, ups, value):
    """Whether a value is one of the arrows that point up."""
    return is_numbers(hall, value) and value in ups


def room_of(hall, lot):
    """The room that just the arrows of a lot part, None if there is none."""
    need_ending(hall)
    inside = list(lot_of(hall, up_arrows(hall), lot))
    first_ones = units(hall)
    play = []
    # The room's plays press lamps whose units are in the lot; behind a press all the other arrows of the lot,
    # turned, part the room.
    while inside:
        lamps = [lamp for lamp, unit in enumerate(first_ones) if unit in inside]
        if not lamps:
            return None
        lamp = lamps[0]
        inside = [turned(hall, arrow, lamp) for arrow in inside if arrow != first_ones[lamp]]
        play.append(lamp)
    return room_behind(hall, play[::-1])


def both_together(one, other):
    """The sum of two arrows."""
    return tuple([own + its for own, its in zip(one, other)])


def is_reason(inside, one, other, both):
    """Whether two arrows and their sum, an arrow, are a reason against a lot."""
    if both in inside:
        return one not in inside and other not in inside
    return one in inside and other in inside


def why_not(hall, lot):
    """The least triple of arrows that is a reason against a lot, None if there is none."""
    need_ending(hall)
    ups = up_arrows(hall)
    inside = lot_of(hall, ups, lot)
    ascending = sorted(ups)
    for place, one in enumerate(ascending):
        for other in ascending[place:]:
            both = both_together(one, other)
            if both in ups and is_reason(inside, one, other, both):
                return (one, other, both)
    return None


def shows_why(hall, lot, value):
    """Whether a value is a triple of arrows that is a reason against a lot."""
    need_ending(hall)
    ups = up_arrows(hall)
    inside = lot_of(hall, ups, lot)
    if not isinstance(value, tuple) or len(value) != 3 or not all([is_up(hall, ups, arrow) for arrow in value]):
        return False
    one, other, both = value
    return both_together(one, other) == both and is_reason(inside, one, other, both)
