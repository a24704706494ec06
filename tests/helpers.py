"""Halls to test with, plain second ways to work answers out, and a way to try wrong arguments."""

from itertools import combinations, product
from random import Random

from kaleidorooms.errors import HallError
from kaleidorooms.halls import Hall


def hall_of(many, *ties):
    """A hall of so many lamps with ties (one, other, times, times back)."""
    pushes = [[0] * many for _ in range(many)]
    for one, other, times, back in ties:
        pushes[one][other] = times
        pushes[other][one] = back
    return Hall(tuple(map(tuple, pushes)))


def chain_of(many, *ties):
    """A chain of lamps with bonds of 3, some ties told otherwise."""
    return hall_of(many, *[(lamp, lamp + 1, 1, 1) for lamp in range(many - 1)], *ties)


# The halls of one ending wing, by their names.
NAMED = {
    **{("a", many): chain_of(many) for many in range(1, 9)},
    **{("b", many): chain_of(many, (many - 2, many - 1, 2, 1)) for many in range(2, 9)},
    **{("c", many): chain_of(many, (many - 2, many - 1, 1, 2)) for many in range(3, 9)},
    **{("d", many): chain_of(many, (many - 2, many - 1, 0, 0), (many - 3, many - 1, 1, 1)) for many in range(4, 9)},
    **{("e", many): chain_of(many, (many - 2, many - 1, 0, 0), (2, many - 1, 1, 1)) for many in range(6, 9)},
    ("f", 4): chain_of(4, (1, 2, 2, 1)),
    ("g", 2): hall_of(2, (0, 1, 3, 1)),
}



def ring_of(many):
    """A ring of lamps with bonds of 3."""
    return chain_of(many, (0, many - 1, 1, 1))


def forked(many, *ties):
    """A chain of lamps with bonds of 3, but the last one hangs on the last but two."""
    return chain_of(many, (many - 2, many - 1, 0, 0), (many - 3, many - 1, 1, 1), *ties)


def flat_halls():
    """All halls that are one flat wing, but for other orders of the lamps, by V. Kac's list."""
    yield from (hall_of(2, (0, 1, 2, 2)), hall_of(2, (0, 1, 4, 1)))
    for many in range(3, 9):
        yield ring_of(many)
        first, last = (0, 1), (many - 2, many - 1)
        for way, back in (((1, 2), (1, 2)), ((1, 2), (2, 1)), ((2, 1), (1, 2))):
            yield chain_of(many, first + way, last + back)
        if many >= 4:
            yield from (forked(many, (0, 1, 1, 2)), forked(many, (0, 1, 2, 1)))
        if many >= 5:
            yield forked(many, (0, 1, 0, 0), (0, 2, 1, 1))
    yield from (chain_of(3, (0, 1, 3, 1)), chain_of(3, (0, 1, 1, 3)))
    yield from (chain_of(5, (1, 2, 2, 1)), chain_of(5, (1, 2, 1, 2)))
    yield chain_of(7, (4, 5, 0, 0), (2, 5, 1, 1), (5, 6, 1, 1))
    yield chain_of(8, (6, 7, 0, 0), (3, 7, 1, 1))


FLATS = list(flat_halls())
LAMP = Hall(((0,),))
CHAIN = chain_of(2)
PAIR = hall_of(2, (0, 1, 2, 2))
LEAN = hall_of(2, (0, 1, 4, 1))
STEEP = hall_of(2, (0, 1, 3, 2))
RING = hall_of(3, (0, 1, 1, 1), (1, 2, 1, 1), (0, 2, 1, 1))
WILD_RING = hall_of(3, (0, 1, 1, 1), (1, 2, 1, 1), (0, 2, 1, 2))
BENT = chain_of(3, (1, 2, 2, 1))
MIXED = hall_of(6, (0, 2, 1, 1), (1, 4, 2, 2), (3, 5, 4, 3))
# Two flat wings, one of them with another least load than 1 for each lamp.
TWO_FLATS = hall_of(5, (0, 2, 4, 1), (1, 3, 1, 1), (3, 4, 1, 1), (1, 4, 1, 1))
FULL = hall_of(8, *[(one, other, 4, 4) for one in range(8) for other in range(one)])
ENDING_HALLS = [LAMP, CHAIN, BENT, NAMED["g", 2], NAMED["d", 4], hall_of(3, (0, 2, 1, 2)), chain_of(4, (1, 2, 0, 0))]
ENDLESS_HALLS = [PAIR, LEAN, STEEP, RING, WILD_RING, MIXED, TWO_FLATS]
SOME_HALLS = ENDING_HALLS + ENDLESS_HALLS


def small_halls(many, most):
    """All halls of so many lamps of which none is pushed more than most times."""
    pairs = [(one, other) for other in range(many) for one in range(other)]
    ways = [(0, 0)] + [(times, back) for times in range(1, most + 1) for back in range(1, most + 1)]
    for chosen in product(ways, repeat=len(pairs)):
        yield hall_of(many, *[pair + way for pair, way in zip(pairs, chosen)])


def random_hall(dice, many, most=4, tied=0.5):
    """A hall of so many lamps, by dice."""
    pairs = [(one, other) for other in range(many) for one in range(other) if dice.random() < tied]
    return hall_of(many, *[pair + (dice.randint(1, most), dice.randint(1, most)) for pair in pairs])


def random_numbers(dice, hall, far=3):
    """Numbers for a hall, by dice."""
    return tuple([dice.randint(-far, far) for _ in range(len(hall))])


def dice_of(seed):
    """Dice that fall alike each time."""
    return Random(seed)


def pressed_plainly(hall, numbers, lamp):
    """The numbers behind the wall of a lamp, told word by word as in the document."""
    after = list(numbers)
    for other in range(len(hall)):
        if other != lamp:
            for _ in range(hall.pushes[lamp][other]):
                after[other] += numbers[lamp]
    after[lamp] = -numbers[lamp]
    return tuple(after)


def led_plainly(hall, numbers, word):
    """The numbers behind the walls of a word."""
    for lamp in word:
        numbers = pressed_plainly(hall, numbers, lamp)
    return numbers


def all_plays(hall, start, most):
    """All plays of a start, ended or not, of at most so many presses, with the numbers behind them."""
    rows = [((), start)]
    found = []
    while rows:
        found.extend(rows)
        rows = [
            (play + (lamp,), pressed_plainly(hall, numbers, lamp))
            for play, numbers in rows
            for lamp in range(len(hall))
            if numbers[lamp] < 0 and len(play) < most
        ]
    return found


def rooms_to(hall, far):
    """All rooms up to a distance, each with its distance, by going through all walls."""
    known = {(1,) * len(hall): 0}
    level = list(known)
    for distance in range(1, far + 1):
        after = []
        for room in level:
            for lamp in range(len(hall)):
                beyond = pressed_plainly(hall, room, lamp)
                if beyond not in known:
                    known[beyond] = distance
                    after.append(beyond)
        level = after
    return known


def turned_plainly(hall, arrow, lamp):
    """An arrow turned by a lamp, word by word as in the document."""
    after = list(arrow)
    after[lamp] = sum(arrow[other] * hall.pushes[lamp][other] for other in range(len(hall))) - arrow[lamp]
    return tuple(after)


def units_plainly(hall):
    """All units."""
    many = range(len(hall))
    return [tuple(1 if at == lamp else 0 for at in many) for lamp in many]


def all_arrows(hall):
    """For each arrow, up or down, the least of the shortest ways by which it becomes a unit."""
    ways = {unit: () for unit in units_plainly(hall)}
    level = list(ways)
    while level:
        fresh = {}
        for arrow in level:
            for lamp in range(len(hall)):
                other = turned_plainly(hall, arrow, lamp)
                if other not in ways:
                    fresh.setdefault(other, []).append((lamp,) + ways[arrow])
        ways.update({arrow: min(listed) for arrow, listed in fresh.items()})
        level = list(fresh)
    return ways


def words_to_rooms(hall, far=1000):
    """For each room up to a distance, by default of an ending hall, the least of the shortest words that lead to it."""
    words = {(1,) * len(hall): ()}
    level = list(words)
    for _ in range(far):
        fresh = {}
        for room in level:
            for lamp in range(len(hall)):
                beyond = pressed_plainly(hall, room, lamp)
                if beyond not in words:
                    fresh.setdefault(beyond, []).append(words[room] + (lamp,))
        words.update({room: min(listed) for room, listed in fresh.items()})
        level = list(fresh)
    return words


def rooms_by_letters(hall, word):
    """All rooms to which some letters of a word lead, in their order, the others left out."""
    first = (1,) * len(hall)
    found = {first}
    for lamp in word:
        found |= {pressed_plainly(hall, room, lamp) for room in found}
    return found


def within_plainly(hall):
    """For each room of an ending hall, the set of all rooms within it."""
    return {room: rooms_by_letters(hall, word) for room, word in words_to_rooms(hall).items()}


def summed(one, other, times=1):
    """The sum of two tuples of integers, the other one taken some number of times."""
    return tuple([own + times * its for own, its in zip(one, other)])


def lots_of_lamps(hall):
    """All ascending tuples of lamps."""
    return [lot for many in range(len(hall) + 1) for lot in combinations(range(len(hall)), many)]


def suite_plainly(hall, room, lamps):
    """All rooms to which one comes through open walls."""
    found = {room}
    fresh = [room]
    while fresh:
        last = fresh.pop()
        for lamp in lamps:
            beyond = pressed_plainly(hall, last, lamp)
            if beyond not in found:
                found.add(beyond)
                fresh.append(beyond)
    return found


NO_INTEGERS = [None, True, False, "0", "", (), (0,), [0], {0: 0}, {}]


class Wrong:
    """A value that is wrong as an argument, with the error that it must raise."""

    def __init__(self, value, error, **fields):
        self.value = value
        self.error = error
        self.fields = fields

    def __repr__(self):
        return f"{self.value!r:.80}"


def wrongs(error, values, **fields):
    """Several wrong values that raise one error."""
    return [Wrong(value, error, **fields) for value in values]


def catch(function, arguments):
    """The error that a call raises."""
    try:
        answer = function(*arguments)
    except HallError as error:
        return error
    raise AssertionError(f"{function.__name__}{arguments!r:.300} raised nothing, but answered {answer!r:.200}")


def expect_error(test, function, arguments, error, **fields):
    """Tests that a call raises just this error with these fields, and leaves its arguments alone."""
    before = repr([getattr(argument, "pushes", argument) for argument in arguments])
    raised = catch(function, arguments)
    told = f"{function.__name__}{before:.300}"
    test.assertIs(error, raised.__class__, told)
    test.assertEqual(fields, vars(raised), told)
    test.assertEqual(before, repr([getattr(argument, "pushes", argument) for argument in arguments]))


def try_wrongs(test, function, good, wrong_lists):
    """Tries each wrong value of each argument, the later arguments right, then wrong as well.

    good are right arguments; wrong_lists has, for each argument, its wrong values (empty for one of which
    any value may be asked).
    """
    function(*good)
    for place, listed in enumerate(wrong_lists):
        later_wrong = [
            later[0].value if later else value for later, value in zip(wrong_lists[place + 1:], good[place + 1:])
        ]
        for wrong in listed:
            for later in (list(good[place + 1:]), later_wrong):
                arguments = list(good[:place]) + [wrong.value] + later
                expect_error(test, function, arguments, wrong.error, **wrong.fields)
