"""Words: walls told one by one, and the rooms to which they lead (points 11, 12 and 14)."""

from kaleidorooms.errors import BadWord, NotShort, TooLong
from kaleidorooms.halls import is_lamp, need_hall, need_lamp
from kaleidorooms.plays import below_lamps, crossed
from kaleidorooms.rooms import first_numbers, home_play

MOST_LETTERS = 60


def need_word(hall, word):
    """Raises BadWord for any value that is no tuple of at most 60 lamps."""
    if not isinstance(word, tuple) or len(word) > MOST_LETTERS:
        raise BadWord(None)
    for index, lamp in enumerate(word):
        if not is_lamp(hall, lamp):
            raise BadWord(index)


def led(hall, numbers, word):
    """The numbers behind going through the walls of a word."""
    for lamp in word:
        numbers = crossed(hall, numbers, lamp)
    return numbers


def room_behind(hall, word):
    """The room to which a word leads."""
    return led(hall, first_numbers(hall), word)


def go(hall, word):
    """The room to which a word leads."""
    need_hall(hall)
    need_word(hall, word)
    return room_behind(hall, word)


def same_room(hall, one, other):
    """Whether two words lead to one room."""
    need_hall(hall)
    need_word(hall, one)
    need_word(hall, other)
    return room_behind(hall, one) == room_behind(hall, other)


def is_short(hall, word):
    """Whether no word of fewer letters leads to the room to which a word leads."""
    need_hall(hall)
    need_word(hall, word)
    return leads_away(hall, word)


def leads_away(hall, word):
    """Whether each letter of a word leads farther away from the first room."""
    return led_away(hall, first_numbers(hall), word) is not None


def led_away(hall, room, word):
    """The room behind going through the walls of a word, None if one leads nearer to the first room."""
    for lamp in word:
        if room[lamp] < 0:
            return None
        room = crossed(hall, room, lamp)
    return room


def need_short(hall, word):
    """Raises BadWord for any value that is no word, NotShort for a word that is not short."""
    need_word(hall, word)
    if not leads_away(hall, word):
        raise NotShort()


def near_play(hall, room):
    """The least play of a room to which short words of at most 60 letters lead, TooLong for another room."""
    play = home_play(hall, room)
    if len(play) > MOST_LETTERS:
        raise TooLong(MOST_LETTERS)
    return play


def turned_about(hall, room):
    """The room to which a near room's words lead when they are read backwards.

    A short word is a play of the room read backwards, so the plays are those words.
    """
    return room_behind(hall, near_play(hall, room))


def short_word(hall, room):
    """The least of the short words that lead to a room."""
    need_hall(hall)
    # Read backwards, the short words to the turned room are the plays of it, so its plays are those to this one.
    return home_play(hall, turned_about(hall, room))


def first_letters(hall, room):
    """The ascending tuple of the lamps with which short words to a room begin."""
    need_hall(hall)
    return below_lamps(turned_about(hall, room))


def back_room(hall, room):
    """The room to which the words of a room lead when they are read backwards."""
    need_hall(hall)
    return turned_about(hall, room)


def dropped(hall, word, lamp):
    """The place of the letter without which a short word leads through one wall more, None if there is none."""
    need_hall(hall)
    need_short(hall, word)
    need_lamp(hall, lamp)
    wanted = crossed(hall, room_behind(hall, word), lamp)
    for place in range(len(word)):
        if room_behind(hall, word[:place] + word[place + 1:]) == wanted:
            return place
    return None
