"""Logs of presses, with gaps, and the plays that fit them (points 47 to 49)."""

from kaleidorooms.checks import is_integer, is_integer_between
from kaleidorooms.errors import BadFar, BadLog, TooMany
from kaleidorooms.halls import is_lamp, need_hall
from kaleidorooms.plays import below_lamps, crossed, need_numbers, played

PRESSED = "pressed"
LOST = "lost"
SEEN = "seen"
MOST_ENTRIES = 20
MOST_LOST = 6
MOST_FAR = 3
MOST_PLAYS = 2000
MOST_STARTS = 2000


def is_entry(hall, value):
    """Whether a value is an entry."""
    if not isinstance(value, tuple) or not value:
        return False
    if value[0] == LOST:
        return len(value) == 1
    if value[0] == PRESSED:
        return len(value) == 2 and is_lamp(hall, value[1])
    return value[0] == SEEN and len(value) == 3 and is_lamp(hall, value[1]) and is_integer(value[2])


def need_log(hall, log):
    """Raises BadLog for any value that is no tuple of at most 20 entries, of which at most 6 are lost."""
    if not isinstance(log, tuple) or len(log) > MOST_ENTRIES:
        raise BadLog(None)
    lost = 0
    for index, entry in enumerate(log):
        if not is_entry(hall, entry):
            raise BadLog(index)
        lost = lost + (1 if entry[0] == LOST else 0)
        if lost > MOST_LOST:
            raise BadLog(index)


def need_start_and_log(hall, start, log):
    """Raises BadHall, BadNumbers or BadLog for any values that are none."""
    need_hall(hall)
    need_numbers(hall, start)
    need_log(hall, log)


def is_seen(numbers, entry):
    """Whether an entry that tells a lamp's number tells what is so."""
    return numbers[entry[1]] == entry[2]


def told_lamps(numbers, entry):
    """The lamps that can be pressed, of those of which an entry tells that one was."""
    return [lamp for lamp in below_lamps(numbers) if entry[0] == LOST or lamp == entry[1]]


def ways_on(hall, numbers, entry):
    """All ways on from some numbers that fit an entry: pairs of a play, of one press or none, and numbers behind it."""
    if entry[0] == SEEN:
        return [((), numbers)] if is_seen(numbers, entry) else []
    return [((lamp,), crossed(hall, numbers, lamp)) for lamp in told_lamps(numbers, entry)]


def levels_by(hall, start, log):
    """For no entry, the first one, the first two and so on: how many plays fit that lead to some numbers, by these."""
    levels = [{start: 1}]
    for entry in log:
        after = {}
        for numbers, many in levels[-1].items():
            for _, beyond in ways_on(hall, numbers, entry):
                after[beyond] = after.get(beyond, 0) + many
        levels.append(after)
    return levels


def fits(hall, start, play, log):
    """Whether a play of a start fits a log."""
    need_hall(hall)
    need_numbers(hall, start)
    played(hall, start, play)
    need_log(hall, log)
    numbers = start
    place = 0
    for entry in log:
        if entry[0] == SEEN:
            if not is_seen(numbers, entry):
                return False
        elif place == len(play) or play[place] not in told_lamps(numbers, entry):
            return False
        else:
            numbers = crossed(hall, numbers, play[place])
            place = place + 1
    return place == len(play)


def plays_of(hall, start, log):
    """The ascending list of all plays of a start that fit a log."""
    need_start_and_log(hall, start, log)
    levels = levels_by(hall, start, log)
    if sum(list(levels[-1].values())) > MOST_PLAYS:
        raise TooMany(MOST_PLAYS)
    leading = leading_on(hall, levels, log)
    rows = [((), start)] if start in leading[0] else []
    # All plays are as long, so those of one press more come in the order of their beginnings.
    for place, entry in enumerate(log):
        rows = [
            (play + more, beyond)
            for play, numbers in rows
            for more, beyond in ways_on(hall, numbers, entry)
            if beyond in leading[place + 1]
        ]
    return [play for play, _ in rows]


def leading_on(hall, levels, log):
    """Of the numbers of each of the levels those from which a play leads on that fits the rest of a log, by dicts."""
    leading = [{numbers: True for numbers in levels[-1]}]
    for place in range(len(log) - 1, -1, -1):
        kept = {}
        for numbers in levels[place]:
            if any([beyond in leading[-1] for _, beyond in ways_on(hall, numbers, log[place])]):
                kept[numbers] = True
        leading.append(kept)
    return leading[::-1]


def count_fits(hall, start, log):
    """How many plays of a start fit a log."""
    need_start_and_log(hall, start, log)
    return sum(list(levels_by(hall, start, log)[-1].values()))


def first_against(hall, start, log):
    """The index of the first entry such that no play fits those up to it, None if some play fits the log."""
    need_start_and_log(hall, start, log)
    for index, level in enumerate(levels_by(hall, start, log)[1:]):
        if not level:
            return index
    return None


def numbers_behind(hall, start, log):
    """The ascending list of all numbers that lie behind plays that fit a log."""
    need_start_and_log(hall, start, log)
    return sorted(levels_by(hall, start, log)[-1])


def times_pressed(hall, start, log):
    """How many times each lamp is pressed at least and at most in a play that fits a log, None if none fits."""
    need_start_and_log(hall, start, log)
    level = {start: ((0, 0),) * len(hall)}
    for entry in log:
        after = {}
        for numbers, times in level.items():
            for press, beyond in ways_on(hall, numbers, entry):
                more = pressed_more(times, press)
                after[beyond] = spanned(after.get(beyond, more), more)
        level = after
    found = list(level.values())
    if not found:
        return None
    times = found[0]
    for other in found:
        times = spanned(times, other)
    return times


def pressed_more(times, press):
    """The least and greatest times of all lamps, one more for a lamp that is pressed."""
    return tuple([(low + 1, high + 1) if lamp in press else (low, high) for lamp, (low, high) in enumerate(times)])


def spanned(times, other):
    """The lesser ones of the least times of all lamps, and the greater ones of the greatest."""
    return tuple([(min(one[0], its[0]), max(one[1], its[1])) for one, its in zip(times, other)])


def starts_told(hall, log, far):
    """The ascending list of all starts of integers from -far to far of which some play fits a log."""
    need_hall(hall)
    need_log(hall, log)
    if not is_integer_between(far, 0, MOST_FAR):
        raise BadFar()
    starts = [()]
    for _ in range(len(hall)):
        starts = [start + (number,) for start in starts for number in range(-far, far + 1)]
        if len(starts) > MOST_STARTS:
            raise TooMany(MOST_STARTS)
    return [start for start in starts if least_fit(hall, start, log, {}) is not None]


def least_fit(hall, numbers, log, dead):
    """The least play from some numbers on that fits a log, None if none does.

    The keys of dead are those numbers, with how many entries are left, from which none is known to lead on.
    """
    if not log:
        return ()
    if (len(log), numbers) in dead:
        return None
    for press, beyond in ways_on(hall, numbers, log[0]):
        rest = least_fit(hall, beyond, log[1:], dead)
        if rest is not None:
            return press + rest
    dead[(len(log), numbers)] = True
    return None
