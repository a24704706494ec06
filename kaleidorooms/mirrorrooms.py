"""Mirror rooms: the rooms on the other side of one mirror alone (point 28)."""

from kaleidorooms.arrows import need_ending, sum_by, up_arrows
from kaleidorooms.belows import counts_within
from kaleidorooms.rooms import home_play, need_room
from kaleidorooms.within import lies_within


def over_mirror(room, arrow, taken):
    """The mirror room of a room over an arrow's mirror, of which up_arrows tells what it takes off."""
    times = sum_by(arrow, room)
    return tuple([number - times * each for number, each in zip(room, taken)])


def all_mirrored(hall, room):
    """All mirror rooms of a room, in the order of the mirrors' arrows."""
    return [over_mirror(room, arrow, taken) for arrow, taken in up_arrows(hall).items()]


def mirror_rooms(hall, room):
    """The ascending list of all mirror rooms of a room."""
    need_ending(hall)
    need_room(hall, room)
    return sorted(all_mirrored(hall, room))


def mirrors_within(hall, room, other):
    """How many mirror rooms of a room lie within another one."""
    need_ending(hall)
    need_room(hall, room)
    play = home_play(hall, other)
    return len([mirrored for mirrored in all_mirrored(hall, room) if lies_within(hall, mirrored, play)])


def is_even_sided(hall, room):
    """Whether each room within a room has just as many mirror rooms within this one as its distance is.

    (They have exactly if its series reads the same both ways.)
    """
    need_ending(hall)
    counts = counts_within(hall, room)
    return counts == counts[::-1]
