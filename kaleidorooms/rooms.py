"""Rooms: the numbers to which one comes from the first room through walls (point 10)."""

from kaleidorooms.errors import BadRoom
from kaleidorooms.halls import need_hall, need_lamp
from kaleidorooms.plays import below_lamps, crossed, is_numbers, play_out

MOST_ROOMS = 2000


def first_room(hall):
    """The numbers that are 1 for all lamps."""
    need_hall(hall)
    return first_numbers(hall)


def first_numbers(hall):
    """The numbers of the first room."""
    return (1,) * len(hall)


def is_room(hall, value):
    """Whether a value is a room."""
    need_hall(hall)
    return play_to_first(hall, value) is not None


def play_to_first(hall, value):
    """The least play that leads from a room to the first room, None for any value that is no room."""
    if not is_numbers(hall, value):
        return None
    told = play_out(hall, value)
    return told[1] if told is not None and told[0] == first_numbers(hall) else None


def home_play(hall, room):
    """The least play that leads from a room to the first room, BadRoom for any value that is no room."""
    play = play_to_first(hall, room)
    if play is None:
        raise BadRoom()
    return play


def need_room(hall, room):
    """Raises BadRoom for any value that is no room."""
    home_play(hall, room)


def through(hall, room, lamp):
    """The room behind the wall of a lamp."""
    need_hall(hall)
    need_room(hall, room)
    need_lamp(hall, lamp)
    return crossed(hall, room, lamp)


def distance(hall, room):
    """The least number of walls through which one goes from the first room to a room."""
    need_hall(hall)
    return len(home_play(hall, room))


def walls_home(hall, room):
    """The ascending tuple of the lamps through whose walls the distance becomes less."""
    need_hall(hall)
    need_room(hall, room)
    return below_lamps(room)
