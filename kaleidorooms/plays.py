"""Plays: pressing lamps whose numbers are below 0 (points 5 to 9)."""

from kaleidorooms.checks import is_integer_between, is_integers
from kaleidorooms.errors import BadEnd, BadMany, BadNumbers, BadPlay, NotBelow, TooLong, TooMany
from kaleidorooms.halls import all_lamps, is_lamp, need_hall, need_lamp, wings
from kaleidorooms.loads import FLAT, WILD, flat_load, is_load, is_wing, kind_by, kind_of

MOST_PRESSES = 5000
MOST_NUMBERS = 2000
MOST_BACK = 20


def is_numbers(hall, value):
    """Whether a value is a tuple of an integer for each lamp."""
    return is_integers(value, len(hall))


def need_numbers(hall, numbers):
    """Raises BadNumbers for any value that is no tuple of an integer for each lamp."""
    if not is_numbers(hall, numbers):
        raise BadNumbers()


def able(hall, numbers):
    """The ascending tuple of the lamps whose numbers are below 0."""
    need_hall(hall)
    need_numbers(hall, numbers)
    return below_lamps(numbers)


def below_lamps(numbers):
    """The ascending tuple of the lamps whose numbers are below 0."""
    return tuple([lamp for lamp, number in enumerate(numbers) if number < 0])


def crossed(hall, numbers, lamp):
    """The numbers behind going through the wall of a lamp, as a press changes them."""
    own = numbers[lamp]
    behind_it = [number + own * times for number, times in zip(numbers, hall.pushes[lamp])]
    behind_it[lamp] = -own
    return tuple(behind_it)


def pressed(hall, numbers, lamp):
    """The numbers behind a press of a lamp."""
    need_hall(hall)
    need_numbers(hall, numbers)
    need_lamp(hall, lamp)
    if numbers[lamp] >= 0:
        raise NotBelow()
    return crossed(hall, numbers, lamp)


def behind(hall, start, play):
    """The numbers behind a play of a start."""
    need_hall(hall)
    need_numbers(hall, start)
    return played(hall, start, play)


def played(hall, start, play):
    """The numbers behind a play, BadPlay for any value that is none."""
    if not isinstance(play, tuple) or len(play) > MOST_PRESSES:
        raise BadPlay(None)
    numbers = start
    for index, lamp in enumerate(play):
        if not is_lamp(hall, lamp) or numbers[lamp] >= 0:
            raise BadPlay(index)
        numbers = crossed(hall, numbers, lamp)
    return numbers


def is_shown(start, wing, worth, word):
    """Whether a load of a wing, of the kind that the word tells, shows that no play of a start ends."""
    total = sum([start[lamp] * own for lamp, own in zip(wing, worth)])
    if word == FLAT and total == 0:
        return any([start[lamp] != 0 for lamp in wing])
    return word in (FLAT, WILD) and total < 0


def never_paper(hall, start):
    """The first flat wing, with its least load, that shows that no play of a start ends, None if none does."""
    need_hall(hall)
    need_numbers(hall, start)
    return paper_of(hall, start)


def paper_of(hall, start):
    """The pair that never_paper is."""
    for wing in wings(hall):
        if kind_of(hall, wing) == FLAT:
            worth = flat_load(hall, wing)
            if is_shown(start, wing, worth, FLAT):
                return (wing, worth)
    return None


def shows_never(hall, start, value):
    """Whether a value is a pair of a wing and a load that shows that no play of a start ends."""
    need_hall(hall)
    need_numbers(hall, start)
    if not isinstance(value, tuple) or len(value) != 2:
        return False
    wing, worth = value
    if not is_wing(hall, wing) or not is_load(wing, worth):
        return False
    return is_shown(start, wing, worth, kind_by(hall, wing, worth))


def play_out(hall, start):
    """The numbers at the end, the least play that ends, and what each lamp turns in it.

    None if never_paper tells that there is none, TooLong if it has too many presses.
    """
    if paper_of(hall, start) is not None:
        return None
    numbers = start
    play = []
    turned = [0] * len(hall)
    choices = below_lamps(numbers)
    while choices:
        if len(play) == MOST_PRESSES:
            raise TooLong(MOST_PRESSES)
        # All plays that end have as many presses, so the least lamp each time makes the least play.
        lamp = choices[0]
        turned[lamp] = turned[lamp] - numbers[lamp]
        play.append(lamp)
        numbers = crossed(hall, numbers, lamp)
        choices = below_lamps(numbers)
    return (numbers, tuple(play), tuple(turned))


def checked_play_out(hall, start):
    """What play_out tells, of any values."""
    need_hall(hall)
    need_numbers(hall, start)
    return play_out(hall, start)


def end(hall, start):
    """The numbers at which the plays of a start end, None if never_paper is not."""
    told = checked_play_out(hall, start)
    return None if told is None else told[0]


def first_play(hall, start):
    """The least play of a start that ends, None if never_paper is not."""
    told = checked_play_out(hall, start)
    return None if told is None else told[1]


def presses(hall, start):
    """How many presses the plays of a start have that end, None if never_paper is not."""
    told = checked_play_out(hall, start)
    return None if told is None else len(told[1])


def handed(hall, start):
    """What each lamp turns in the plays of a start that end, None if never_paper is not."""
    told = checked_play_out(hall, start)
    return None if told is None else told[2]


def further(hall, rows):
    """The ascending list of the numbers behind one press of some numbers, each once."""
    found = {}
    for numbers in rows:
        for lamp in below_lamps(numbers):
            found[crossed(hall, numbers, lamp)] = True
    return sorted(found)


def levels_of(hall, start):
    """For no press, one press and so on, the ascending lists of the numbers behind so many in plays that end."""
    levels = [[start]]
    many = 1
    fresh = further(hall, [start])
    while fresh:
        many = many + len(fresh)
        if many > MOST_NUMBERS:
            raise TooMany(MOST_NUMBERS)
        levels.append(fresh)
        fresh = further(hall, fresh)
    return levels


def plays_left(hall, start):
    """How many plays end, told for each of the numbers that come in the plays of a start that end."""
    left = {}
    levels = levels_of(hall, start)
    for rows in reversed(levels):
        for numbers in rows:
            ways = [left[crossed(hall, numbers, lamp)] for lamp in below_lamps(numbers)]
            left[numbers] = sum(ways) if ways else 1
    return left


def count_plays(hall, start):
    """How many plays of a start end, None if never_paper is not."""
    if checked_play_out(hall, start) is None:
        return None
    return plays_left(hall, start)[start]


def all_numbers(hall, start):
    """All numbers behind plays of a start, by presses, then ascending, None if never_paper is not."""
    if checked_play_out(hall, start) is None:
        return None
    return [numbers for rows in levels_of(hall, start) for numbers in rows]


def starts_to(hall, numbers, many):
    """The ascending list of all starts whose plays end at numbers behind so many presses."""
    need_hall(hall)
    need_numbers(hall, numbers)
    need_end(numbers)
    if not is_integer_between(many, 0, MOST_BACK):
        raise BadMany()
    rows = [numbers]
    for _ in range(many):
        rows = back_from(hall, rows, all_lamps(hall))
        if len(rows) > MOST_NUMBERS:
            raise TooMany(MOST_NUMBERS)
    return rows


def need_end(numbers):
    """Raises BadEnd for numbers of which some are below 0."""
    if below_lamps(numbers):
        raise BadEnd()


def back_from(hall, rows, lamps):
    """The ascending list of the numbers from which one press of one of some lamps leads to some numbers, each once."""
    found = {}
    for numbers in rows:
        for lamp in lamps:
            # Through a wall twice leads back; a press leaves its lamp with a number above 0.
            if numbers[lamp] > 0:
                found[crossed(hall, numbers, lamp)] = True
    return sorted(found)
