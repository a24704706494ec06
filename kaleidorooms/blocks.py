"""Blocks: the rooms of a room's words with some letters ahead of them, and some behind (point 32)."""

from kaleidorooms.arrows import need_ending
from kaleidorooms.belows import by_distance
from kaleidorooms.errors import TooMany
from kaleidorooms.halls import need_lamps
from kaleidorooms.heights import rooms_by_steps, steps_of
from kaleidorooms.plays import crossed
from kaleidorooms.rooms import MOST_ROOMS, home_play, need_room
from kaleidorooms.suites import every_room
from kaleidorooms.words import room_behind


def rooms_of_block(hall, room, front, back):
    """The rooms of a room's block, the lesser distances first, those of one distance ascending."""
    need_ending(hall)
    need_room(hall, room)
    need_lamps(hall, front)
    need_lamps(hall, back)
    if rooms_by_steps(steps_of(hall)) > MOST_ROOMS:
        raise TooMany(MOST_ROOMS)
    distances = {}
    fresh = [room]
    while fresh:
        last = fresh.pop()
        if last not in distances:
            word = home_play(hall, last)[::-1]
            distances[last] = len(word)
            fresh = fresh + [room_behind(hall, (lamp,) + word) for lamp in front]
            fresh = fresh + [crossed(hall, last, lamp) for lamp in back]
    return by_distance(distances)


def block(hall, room, front, back):
    """The rooms of a room's block, the lesser distances first, those of one distance ascending."""
    return rooms_of_block(hall, room, front, back)


def block_nearest(hall, room, front, back):
    """The room of a room's block with the least distance."""
    return rooms_of_block(hall, room, front, back)[0]


def count_blocks(hall, front, back):
    """How many blocks there are."""
    need_ending(hall)
    need_lamps(hall, front)
    need_lamps(hall, back)
    return len([room for room in every_room(hall) if is_block_nearest(hall, room, front, back)])


def is_block_nearest(hall, room, front, back):
    """Whether a room is the nearest one of its block: no letter of its block, ahead or behind, leads it nearer.

    The letters ahead lead nearer that are below 0 in the room to which its words lead read backwards.
    """
    turned = room_behind(hall, home_play(hall, room))
    return all([turned[lamp] > 0 for lamp in front]) and all([room[lamp] > 0 for lamp in back])
