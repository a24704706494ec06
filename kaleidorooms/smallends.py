"""The starts whose plays end at some numbers, and ends of which all starts are small (point 44)."""

from kaleidorooms.arrows import need_ending, sum_by, units, up_arrows
from kaleidorooms.halls import all_lamps, wings
from kaleidorooms.mirrors import both_together
from kaleidorooms.plays import need_end, need_numbers
from kaleidorooms.suites import all_back


def starts_of(hall, numbers):
    """The ascending list of all starts whose plays end at some numbers."""
    need_ending(hall)
    need_numbers(hall, numbers)
    need_end(numbers)
    return sorted(all_back(hall, numbers, all_lamps(hall)))


def is_small(hall, numbers):
    """Whether all numbers of all starts whose plays end at some numbers are -1, 0 or 1.

    The numbers of these starts are the sums by all arrows, up and down.
    """
    need_ending(hall)
    need_numbers(hall, numbers)
    need_end(numbers)
    return all([sum_by(arrow, numbers) <= 1 for arrow in up_arrows(hall)])


def small_ends(hall):
    """The ascending list of all small numbers.

    In each wing they are all 0, or 1 for one lamp alone: one that no arrow has more than once.
    """
    need_ending(hall)
    first_ones = units(hall)
    found = [(0,) * len(hall)]
    for wing in wings(hall):
        lamps = [lamp for lamp in wing if is_small(hall, first_ones[lamp])]
        found = found + [both_together(numbers, first_ones[lamp]) for numbers in found for lamp in lamps]
    return sorted(found)
