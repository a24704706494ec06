"""All rooms within a room, and what two rooms have in common (points 26 and 27)."""

from kaleidorooms.arrows import need_ending, signs_turned
from kaleidorooms.errors import TooMany
from kaleidorooms.plays import crossed
from kaleidorooms.rooms import MOST_ROOMS, first_numbers, home_play, need_room
from kaleidorooms.within import lies_within


def distances_within(hall, room):
    """The distances of all rooms within a room, by rooms, TooMany if there are too many.

    With each letter of a shortest word to the room those rooms come in that lie behind its wall.
    """
    found = {first_numbers(hall): 0}
    for lamp in reversed(home_play(hall, room)):
        for near, far in list(found.items()):
            if near[lamp] > 0:
                found[crossed(hall, near, lamp)] = far + 1
        if len(found) > MOST_ROOMS:
            raise TooMany(MOST_ROOMS)
    return found


def by_distance(distances):
    """The rooms of which distances are told, the lesser distances first, those of one distance ascending."""
    return [room for _, room in sorted([(far, room) for room, far in distances.items()])]


def below(hall, room):
    """All rooms within a room, the lesser distances first, those of one distance ascending."""
    need_ending(hall)
    return by_distance(distances_within(hall, room))


def series(hall, room):
    """How many rooms within a room are at the distance 0, 1 and so on."""
    need_ending(hall)
    return counts_within(hall, room)


def counts_within(hall, room):
    """The tuple that series is."""
    distances = list(distances_within(hall, room).values())
    return tuple([distances.count(far) for far in range(max(distances) + 1)])


def distances_between(hall, room, other):
    """The distances, by rooms, of the rooms within another one in which a room lies."""
    need_ending(hall)
    need_room(hall, room)
    distances = distances_within(hall, other)
    return {over: far for over, far in distances.items() if lies_within(hall, room, home_play(hall, over))}


def between(hall, room, other):
    """The rooms within another one in which a room lies, in the order of below."""
    return by_distance(distances_between(hall, room, other))


def evens_less_odds(hall, room, other):
    """How many rooms of between are at even distances, less how many are at odd ones."""
    distances = distances_between(hall, room, other)
    return sum([1 if far % 2 == 0 else -1 for far in distances.values()])


def common_within(hall, one, other):
    """The ascending list of the rooms within both of two rooms that lie within no other such room."""
    need_ending(hall)
    need_room(hall, one)
    need_room(hall, other)
    return greatest_within(hall, one, other)


def greatest_within(hall, one, other):
    """The list that common_within is."""
    in_one = distances_within(hall, one)
    in_other = distances_within(hall, other)
    common = by_distance({room: far for room, far in in_one.items() if room in in_other})
    found = []
    plays = []
    # Who lies within another one lies within one of the greatest, which are farther away.
    for room in reversed(common):
        if not any([lies_within(hall, room, play) for play in plays]):
            found.append(room)
            plays.append(home_play(hall, room))
    return sorted(found)


def common_above(hall, one, other):
    """The ascending list of the rooms in which both of two rooms lie, but no other such room."""
    need_ending(hall)
    need_room(hall, one)
    need_room(hall, other)
    # With opposite rooms within turns about.
    return sorted([signs_turned(room) for room in greatest_within(hall, signs_turned(one), signs_turned(other))])
