"""Logs that no play fits but for some doubted entries (point 50)."""

from kaleidorooms.logs import LOST, PRESSED, SEEN, is_seen, least_fit, need_start_and_log, ways_on
from kaleidorooms.plays import below_lamps, crossed


def doubted(hall, start, log):
    """The least of the smallest tuples of indexes of entries but for which a play nearly fits, None if none does."""
    need_start_and_log(hall, start, log)
    return least_doubts(hall, start, log)


def mended(hall, start, log):
    """The least play that nearly fits but for the doubted entries, None if none does."""
    need_start_and_log(hall, start, log)
    doubts = least_doubts(hall, start, log)
    return None if doubts is None else least_fit(hall, start, without_doubts(log, doubts), {})


def without_doubts(log, doubts):
    """A log in which doubted presses are lost, and doubted numbers were not seen."""
    kept = [(index, entry) for index, entry in enumerate(log) if index not in doubts or entry[0] != SEEN]
    return tuple([(LOST,) if index in doubts else entry for index, entry in kept])


def least_doubts(hall, start, log):
    """The tuple that doubted is.

    With no doubt, then one more each time, all numbers are found to which plays lead behind each of the first
    entries, with just so many doubts. Of the doubts that lead to the same numbers the least are kept, as the
    same can follow behind them.
    """
    if not can_be_pressed(hall, start, len([entry for entry in log if entry[0] != SEEN])):
        return None
    known = [{} for _ in range(len(log) + 1)]
    seeds = [{start: ()}] + [{} for _ in log]
    found = []
    while not found:
        found, seeds = with_more_doubts(hall, log, known, seeds)
    return min(found)


def can_be_pressed(hall, start, many):
    """Whether a play of a start has so many presses: if one play cannot go on so far, no other one can."""
    numbers = start
    for _ in range(many):
        choices = below_lamps(numbers)
        if not choices:
            return False
        numbers = crossed(hall, numbers, choices[0])
    return True


def with_more_doubts(hall, log, known, seeds):
    """The doubts, just so many as lead to the seeds, with which a play goes to the end, and the seeds with one more.

    The seeds are, for each number of entries, the numbers to which a doubt led behind these, with all doubts up
    to there. Known are the numbers that come behind the entries with fewer doubts, or as many; here more become
    known.
    """
    rows = seeds[0]
    more = [{}]
    for place, entry in enumerate(log):
        for numbers in rows:
            known[place][numbers] = True
        further = {numbers: doubts for numbers, doubts in seeds[place + 1].items() if numbers not in known[place + 1]}
        raised = {}
        for numbers, doubts in rows.items():
            for _, beyond in ways_on(hall, numbers, entry):
                if beyond not in known[place + 1]:
                    keep_least(further, beyond, doubts)
            for beyond in doubted_ways(hall, numbers, entry):
                keep_least(raised, beyond, doubts + (place,))
        rows = further
        more.append(raised)
    return (list(rows.values()), more)


def doubted_ways(hall, numbers, entry):
    """The numbers to which ways on from some lead that do not fit an entry, but would if it were doubted."""
    if entry[0] == PRESSED:
        return [crossed(hall, numbers, lamp) for lamp in below_lamps(numbers) if lamp != entry[1]]
    return [numbers] if entry[0] == SEEN and not is_seen(numbers, entry) else []


def keep_least(table, numbers, doubts):
    """Lets a table tell these doubts for some numbers, if it tells none for them, or greater ones."""
    if numbers not in table or doubts < table[numbers]:
        table[numbers] = doubts
