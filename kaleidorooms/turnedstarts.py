"""The numbers to which one comes from some through walls (point 33)."""

from kaleidorooms.arrows import need_ending
from kaleidorooms.halls import all_lamps
from kaleidorooms.plays import need_numbers, play_out
from kaleidorooms.quotients import suites_by
from kaleidorooms.rooms import home_play
from kaleidorooms.suites import all_back
from kaleidorooms.words import room_behind


def count_numbers(hall, numbers):
    """To how many numbers one comes from some through walls, themselves among them."""
    need_ending(hall)
    need_numbers(hall, numbers)
    at_end = play_out(hall, numbers)[0]
    return suites_by(hall, tuple([lamp for lamp, number in enumerate(at_end) if number == 0]))


def all_turned(hall, numbers):
    """The ascending list of the numbers to which one comes from some through walls."""
    need_ending(hall)
    need_numbers(hall, numbers)
    # From all of them plays lead to the same end.
    return sorted(all_back(hall, play_out(hall, numbers)[0], all_lamps(hall)))


def number_word(hall, numbers):
    """The least of the shortest words that lead to numbers from the end of their plays.

    These words are the plays read backwards, and just the short words to one room: the least one is the least
    play of the room to which they lead read backwards.
    """
    need_ending(hall)
    need_numbers(hall, numbers)
    return home_play(hall, room_behind(hall, play_out(hall, numbers)[1]))
