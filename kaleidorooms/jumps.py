"""Jumps over mirrors, and the fewest that lead to a room (points 55 and 56)."""

from kaleidorooms.arrows import need_ending, units, up_arrows
from kaleidorooms.errors import BadJumps
from kaleidorooms.heights import steps_of
from kaleidorooms.mirrorrooms import over_mirror
from kaleidorooms.mirrors import is_up
from kaleidorooms.rooms import first_numbers, home_play
from kaleidorooms.shifts import echelon, moved_by, place_of
from kaleidorooms.words import led

MOST_JUMPS = 60


def are_jumps(hall, ups, value):
    """Whether a value is a tuple of arrows that point up."""
    return isinstance(value, tuple) and all([is_up(hall, ups, arrow) for arrow in value])


def need_jumps(hall, ups, jumps):
    """Raises BadJumps for any value that is no tuple of at most 60 arrows that point up."""
    if not isinstance(jumps, tuple) or len(jumps) > MOST_JUMPS:
        raise BadJumps(None)
    for index, arrow in enumerate(jumps):
        if not is_up(hall, ups, arrow):
            raise BadJumps(index)


def jumped_over(ups, numbers, jumps):
    """The numbers behind jumps, from some numbers on."""
    for arrow in jumps:
        numbers = over_mirror(numbers, arrow, ups[arrow])
    return numbers


def jumped(hall, jumps):
    """The room to which jumps lead from the first room."""
    need_ending(hall)
    ups = up_arrows(hall)
    need_jumps(hall, ups, jumps)
    return jumped_over(ups, first_numbers(hall), jumps)


def behind_units(hall, word):
    """The numbers to which a word leads from each unit, and so what it makes of all numbers."""
    return [led(hall, unit, word) for unit in units(hall)]


def behind_room(hall, room):
    """The numbers to which the words of a room lead from each unit."""
    return behind_units(hall, home_play(hall, room)[::-1])


def changes(hall, images):
    """An echelon of the tuples by which sums of numbers tell what their numbers change by.

    The images are what becomes of each unit. There are as many tuples as the fewest jumps that change numbers so
    (R. Carter, 1972).
    """
    moved = [moved_by(image, -1, unit) for image, unit in zip(images, units(hall))]
    return echelon([tuple([change[place] for change in moved]) for place in range(len(hall))])


def is_sum(rows, value):
    """Whether a tuple is a sum of those of an echelon, each taken some number of times, fractions among them."""
    for row in rows:
        place = place_of(row)
        times, against = row[place], value[place]
        value = tuple([own * times - its * against for own, its in zip(value, row)])
    return all([own == 0 for own in value])


def fewest_jumps(hall, room):
    """The least number of jumps that lead to a room."""
    need_ending(hall)
    return len(changes(hall, behind_room(hall, room)))


def jump_way(hall, room):
    """The fewest jumps that lead to a room, any such.

    A jump over an arrow takes one off the fewest jumps just if it is a sum of the changes, as then all numbers
    that do not change stay where they are.
    """
    need_ending(hall)
    ups = up_arrows(hall)
    images = behind_room(hall, room)
    rows = changes(hall, images)
    found = []
    while rows:
        arrow = [arrow for arrow in ups if is_sum(rows, arrow)][0]
        found.append(arrow)
        images = [jumped_over(ups, image, (arrow,)) for image in images]
        rows = changes(hall, images)
    # The last jump to the room is the one that is taken back first.
    return tuple(found[::-1])


def shows_jump_way(hall, room, value):
    """Whether a value is a tuple of the fewest jumps that lead to a room."""
    need_ending(hall)
    fewest = len(changes(hall, behind_room(hall, room)))
    ups = up_arrows(hall)
    if not are_jumps(hall, ups, value) or len(value) != fewest:
        return False
    return jumped_over(ups, first_numbers(hall), value) == room


def are_independent(hall, jumps):
    """Whether none of the arrows of jumps is a sum of the other ones, each taken some number of times."""
    need_ending(hall)
    need_jumps(hall, up_arrows(hall), jumps)
    return len(echelon(list(jumps))) == len(jumps)


def rooms_by_jumps(hall):
    """How many rooms need no jump, one, two and so on.

    They are the counts of how many ways there are to choose so many steps, and for each an integer from 1 to it.
    """
    need_ending(hall)
    counts = [1]
    for step in steps_of(hall):
        counts = [same + step * less for same, less in zip(counts + [0], [0] + counts)]
    return tuple(counts)
