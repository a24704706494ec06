"""The words of mirrors, and the arrows that a play presses (point 22)."""

from kaleidorooms.arrows import need_ending, turned_by, units, up_arrows, way_of
from kaleidorooms.errors import BadArrow
from kaleidorooms.mirrors import is_up
from kaleidorooms.plays import need_numbers, played
from kaleidorooms.words import room_behind


def need_up_arrow(hall, arrow):
    """Raises BadArrow for any value that is no arrow that points up."""
    if not is_up(hall, up_arrows(hall), arrow):
        raise BadArrow()


def word_over(hall, arrow):
    """The word that mirror_word is."""
    way = way_of(hall, arrow)
    unit = turned_by(hall, arrow, way)
    return way + (unit.index(1),) + way[::-1]


def mirror_word(hall, arrow):
    """The way to a unit of an arrow that points up, the unit's lamp, and the way's lamps from the last to the first."""
    need_ending(hall)
    need_up_arrow(hall, arrow)
    return word_over(hall, arrow)


def mirror_room(hall, arrow):
    """The room behind the walls of an arrow's mirror word."""
    need_ending(hall)
    need_up_arrow(hall, arrow)
    return room_behind(hall, word_over(hall, arrow))


def arrows_pressed(hall, start, play):
    """The arrow that each press of a play presses, as seen from the start."""
    need_ending(hall)
    need_numbers(hall, start)
    played(hall, start, play)
    first_ones = units(hall)
    # A turning takes itself back, so the unit is turned by the presses ahead of it from the last to the first.
    return tuple([turned_by(hall, first_ones[lamp], play[:place][::-1]) for place, lamp in enumerate(play)])
