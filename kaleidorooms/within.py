"""Rooms within rooms, and the letters of words that lead to them (points 23 and 24)."""

from kaleidorooms.arrows import need_ending
from kaleidorooms.checks import is_ascending
from kaleidorooms.plays import crossed, played
from kaleidorooms.rooms import first_numbers, home_play, need_room
from kaleidorooms.words import need_word, room_behind


def follow(hall, room, play):
    """Where a room is that goes through the walls of a play that lead it nearer to the first room."""
    for lamp in play:
        if room[lamp] < 0:
            room = crossed(hall, room, lamp)
    return room


def lies_within(hall, room, play):
    """Whether a room lies within another one, of which a play that ends is told."""
    return follow(hall, room, play) == first_numbers(hall)


def is_within(hall, room, other):
    """Whether a room lies within another one."""
    need_ending(hall)
    need_room(hall, room)
    return lies_within(hall, room, home_play(hall, other))


def followed(hall, room, other, play):
    """Where a room is that follows a play of another one."""
    need_ending(hall)
    need_room(hall, room)
    need_room(hall, other)
    played(hall, other, play)
    return follow(hall, room, play)


def letters_for(hall, word, room):
    """The least places of a word of which the lamps are a shortest word to a room, None if there are none.

    The room to which the room's words lead read backwards loses its walls home in the order of the room's
    letters. If a letter is among these walls where it stands, whatever is left of the word is enough for the
    room without it, if it was for the room with it; so each such letter is taken.
    """
    need_ending(hall)
    need_word(hall, word)
    left = room_behind(hall, home_play(hall, room))
    places = []
    for place, lamp in enumerate(word):
        if left[lamp] < 0:
            places.append(place)
            left = crossed(hall, left, lamp)
    return tuple(places) if left == first_numbers(hall) else None


def are_letters(hall, word, room, value):
    """Whether a value is a tuple of places of a word of which the lamps are a shortest word to a room."""
    need_ending(hall)
    need_word(hall, word)
    far = len(home_play(hall, room))
    if not is_ascending(value, len(word)) or len(value) != far:
        return False
    return room_behind(hall, [word[place] for place in value]) == room


def greatest_by(hall, word):
    """The room to which a word leads without the lamps whose walls would lead nearer to the first room."""
    need_ending(hall)
    need_word(hall, word)
    room = first_numbers(hall)
    for lamp in word:
        if room[lamp] > 0:
            room = crossed(hall, room, lamp)
    return room
