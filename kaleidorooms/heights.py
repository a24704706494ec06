"""Heights of arrows, the steps that they make, and rooms counted by these (point 21)."""

from kaleidorooms.arrows import need_ending, up_arrows
from kaleidorooms.halls import picked


def heights(hall):
    """How many arrows that point up have the height 1, 2 and so on."""
    need_ending(hall)
    return arrows_by_height(hall)


def arrows_by_height(hall):
    """How many arrows that point up have the height 1, 2 and so on."""
    told = [sum(arrow) for arrow in up_arrows(hall)]
    return tuple([told.count(height) for height in range(1, max(told) + 1)])


def steps(hall):
    """The ascending tuple of the numbers, one for each lamp, of which as many as heights tells are at least so high."""
    need_ending(hall)
    return steps_of(hall)


def steps_of(hall):
    """The steps: for as many arrows as there are lamps, and for one less each time, how many heights have so many."""
    told = arrows_by_height(hall)
    return tuple([len([many for many in told if many >= least]) for least in range(len(hall), 0, -1)])


def part_steps(hall, lamps):
    """The steps of the hall of some lamps, perhaps none."""
    return steps_of(picked(hall, lamps)) if lamps else ()


def count_rooms(hall):
    """How many rooms there are."""
    need_ending(hall)
    return rooms_by_steps(steps_of(hall))


def rooms_by_steps(told):
    """How many rooms a hall has whose steps are told."""
    many = 1
    for step in told:
        many = many * (step + 1)
    return many


def rooms_by_distance(hall):
    """How many rooms are at the distance 0, 1 and so on."""
    need_ending(hall)
    return tuple(distances_by_steps(steps_of(hall)))


def distances_by_steps(told):
    """How many rooms a hall whose steps are told has at the distance 0, 1 and so on."""
    counts = [1]
    for step in told:
        counts = with_step(counts, step)
    return counts


def with_step(counts, step):
    """How many ways there are to make each sum, if an integer from 0 to a step is added to what is counted."""
    after = [0] * (len(counts) + step)
    for far, many in enumerate(counts):
        for more in range(step + 1):
            after[far + more] = after[far + more] + many
    return after


def without_step(counts, step):
    """The counts of which with_step makes those that are told."""
    before = []
    for far in range(len(counts) - step):
        before.append(counts[far] - sum(before[max(0, far - step):]))
    return before
