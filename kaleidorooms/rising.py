"""Rooms within rooms, one wall nearer each, and opposite rooms (point 25)."""

from kaleidorooms.arrows import need_ending, signs_turned
from kaleidorooms.plays import crossed, is_numbers
from kaleidorooms.rooms import first_numbers, home_play, need_room
from kaleidorooms.within import lies_within
from kaleidorooms.words import led_away


def covers(hall, room):
    """The ascending list of the rooms within a room whose distance is one less."""
    need_ending(hall)
    return rooms_under(hall, room)


def rooms_under(hall, room):
    """The ascending list that covers is: where a shortest word to the room leads if one of its letters is left out."""
    word = home_play(hall, room)[::-1]
    near = first_numbers(hall)
    found = []
    for place, lamp in enumerate(word):
        behind_rest = led_away(hall, near, word[place + 1:])
        if behind_rest is not None:
            found.append(behind_rest)
        near = crossed(hall, near, lamp)
    return sorted(found)


def covered(hall, room):
    """The ascending list of the rooms within which a room lies whose distance is one more."""
    need_ending(hall)
    need_room(hall, room)
    return rooms_over(hall, room)


def rooms_over(hall, room):
    """The ascending list that covered is; with opposite rooms within turns about."""
    return sorted([signs_turned(under) for under in rooms_under(hall, signs_turned(room))])


def opposite(hall, room):
    """The room whose numbers are those of a room with turned signs."""
    need_ending(hall)
    need_room(hall, room)
    return signs_turned(room)


def rising(hall, room, other):
    """The least tuple of rooms from a room to another one, each in covers of the next one, None if there is none."""
    need_ending(hall)
    need_room(hall, room)
    play = home_play(hall, other)
    if not lies_within(hall, room, play):
        return None
    way = [room]
    while way[-1] != other:
        # From each room within the other one there is a way up to it, so the least next one is right.
        next_ones = [over for over in rooms_over(hall, way[-1]) if lies_within(hall, over, play)]
        way.append(next_ones[0])
    return tuple(way)


def shows_rising(hall, room, other, value):
    """Whether a value is a tuple of rooms from a room to another one, each in covers of the next one."""
    need_ending(hall)
    need_room(hall, room)
    need_room(hall, other)
    if not isinstance(value, tuple) or not value or not all([is_numbers(hall, thing) for thing in value]):
        return False
    if value[0] != room or value[-1] != other:
        return False
    # From the last one on down, each is known to be a room before its covers are asked for.
    for under, over in reversed(list(zip(value, value[1:]))):
        if under not in rooms_under(hall, over):
            return False
    return True
