"""Suites: the rooms to which one comes if some walls are locked (points 29 and 30)."""

from kaleidorooms.arrows import need_ending, signs_turned
from kaleidorooms.errors import BadRest, NotNearest, TooMany
from kaleidorooms.halls import all_lamps, need_lamps, need_some_lamps, picked
from kaleidorooms.plays import back_from, below_lamps, crossed
from kaleidorooms.rooms import MOST_ROOMS, first_numbers, need_room, play_to_first
from kaleidorooms.words import led, room_behind


def open_below(numbers, lamps):
    """Those of some lamps whose numbers are below 0."""
    return [lamp for lamp in below_lamps(numbers) if lamp in lamps]


def open_play(hall, room, lamps):
    """The least play that presses open lamps alone, until none of these can be pressed, and the room behind it."""
    play = []
    choices = open_below(room, lamps)
    while choices:
        play.append(choices[0])
        room = crossed(hall, room, choices[0])
        choices = open_below(room, lamps)
    return (play, room)


def nearest_of(hall, room, lamps):
    """The one room of a room's suite with the least distance."""
    return open_play(hall, room, lamps)[1]


def farthest_of(hall, room, lamps):
    """The one room of a room's suite with the greatest distance.

    Opposite rooms have opposite suites, in which what is near is far.
    """
    return signs_turned(nearest_of(hall, signs_turned(room), lamps))


def all_back(hall, numbers, lamps):
    """All numbers from which presses of some lamps lead to numbers at which none of these lamps is below 0.

    Those of fewer presses come first, those of as many are ascending; TooMany if they are too many.
    """
    found = []
    rows = [numbers]
    while rows:
        found = found + rows
        if len(found) > MOST_ROOMS:
            raise TooMany(MOST_ROOMS)
        rows = back_from(hall, rows, lamps)
    return found


def every_room(hall):
    """All rooms of a hall, the lesser distances first, those of one distance ascending, TooMany if too many."""
    return all_back(hall, first_numbers(hall), all_lamps(hall))


def suite(hall, room, lamps):
    """The rooms of a room's suite, the lesser distances first, those of one distance ascending."""
    need_ending(hall)
    need_room(hall, room)
    need_lamps(hall, lamps)
    return all_back(hall, nearest_of(hall, room, lamps), lamps)


def nearest(hall, room, lamps):
    """The one room of a room's suite with the least distance."""
    need_ending(hall)
    need_room(hall, room)
    need_lamps(hall, lamps)
    return nearest_of(hall, room, lamps)


def farthest(hall, room, lamps):
    """The one room of a room's suite with the greatest distance."""
    need_ending(hall)
    need_room(hall, room)
    need_lamps(hall, lamps)
    return farthest_of(hall, room, lamps)


def split(hall, room, lamps):
    """The nearest room of a room's suite, and the room of the part to which the way from there leads."""
    need_ending(hall)
    need_room(hall, room)
    need_some_lamps(hall, lamps)
    play, near = open_play(hall, room, lamps)
    word = [lamps.index(lamp) for lamp in reversed(play)]
    return (near, room_behind(picked(hall, lamps), word))


def joined(hall, near, rest, lamps):
    """The room of which near and rest are the split."""
    need_ending(hall)
    need_room(hall, near)
    need_some_lamps(hall, lamps)
    if open_below(near, lamps):
        raise NotNearest()
    play = play_to_first(picked(hall, lamps), rest)
    if play is None:
        raise BadRest()
    return led(hall, near, [lamps[place] for place in reversed(play)])
