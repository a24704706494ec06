"""Texts of halls with numbers (point 51)."""

from kaleidorooms.errors import BadNumbers, InvalidText
from kaleidorooms.halls import MOST_LAMPS, Hall, need_hall, pushed_lamps
from kaleidorooms.plays import need_numbers

MOST_SIGNS = 30
TIMES = ("1", "2", "3", "4")
DIGITS = "0123456789"


def write(hall, numbers):
    """The text of a hall with numbers."""
    need_hall(hall)
    need_numbers(hall, numbers)
    # The sign of a number below 0 takes the place of a digit.
    if not all([-10 ** 29 < number < 10 ** 30 for number in numbers]):
        raise BadNumbers()
    return "\n".join([line_of(hall, lamp, number) for lamp, number in enumerate(numbers)])


def line_of(hall, lamp, number):
    """The line of a lamp with a number."""
    words = ["lamp", str(lamp), "has", str(number)]
    pushed = pushed_lamps(hall, lamp)
    if pushed:
        words.append("pushes")
    for other in pushed:
        words = words + [str(other), str(hall.pushes[lamp][other])]
    return " ".join(words)


def read(text):
    """The pair of the hall and the numbers that a text tells."""
    numbers = []
    rows = []
    for lamp, line in enumerate(text.split("\n")):
        words = [word for word in line.split(" ") if word]
        place = wrong_place(words, lamp, rows)
        if place is not None:
            raise InvalidText(lamp + 1, place + 1)
        numbers.append(int(words[3]))
        rows.append({int(words[at]): int(words[at + 1]) for at in range(5, len(words), 2)})
    many = len(rows)
    if any([other >= many for row in rows for other in row]):
        raise InvalidText(many + 1, 1)
    pushes = [tuple([row.get(other, 0) for other in range(many)]) for row in rows]
    return (Hall(tuple(pushes)), tuple(numbers))


def wrong_place(words, lamp, rows):
    """The place of the first word that cannot stand in the line of a lamp, None if the line can.

    It is how many words there are if the line ends too early. The rows are what the lines ahead tell: for each
    lamp, how many times it pushes which ones.
    """
    if lamp == MOST_LAMPS:
        return 0
    for place, word in enumerate(["lamp", str(lamp), "has"]):
        if words[place:place + 1] != [word]:
            return place
    if len(words) == 3 or not is_number(words[3]):
        return 3
    owed = [other for other, row in enumerate(rows) if lamp in row]
    if len(words) == 4:
        return 4 if owed else None
    return wrong_push(words, lamp, owed) if words[4] == "pushes" else 4


def is_number(word):
    """Whether a word is an integer, without needless signs and noughts, of at most 30 signs."""
    digits = word[1:] if word.startswith("-") else word
    if not digits or len(word) > MOST_SIGNS or not all([sign in DIGITS for sign in digits]):
        return False
    return word == "0" or digits[0] != "0"


def wrong_push(words, lamp, owed):
    """The place of the first word that cannot stand where a line tells what its lamp pushes, None if all can.

    The lesser lamps that are owed, ascending, as their own lines tell this one, come first, and no other lesser
    one.
    """
    told = []
    for place in range(5, len(words), 2):
        if words[place] not in next_lamps(lamp, owed, told):
            return place
        if place + 1 == len(words) or words[place + 1] not in TIMES:
            return place + 1
        told.append(int(words[place]))
    return len(words) if not told or len(told) < len(owed) else None


def next_lamps(lamp, owed, told):
    """The words of the lamps that can stand next where a line tells what its lamp pushes, some being told ahead."""
    if len(told) < len(owed):
        return [str(owed[len(told)])]
    return [str(other) for other in range(max([lamp] + told) + 1, MOST_LAMPS)]
