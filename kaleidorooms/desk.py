"""A desk that keeps a hall and numbers, and what was done to them (point 52)."""

from kaleidorooms.checks import is_integer_between
from kaleidorooms.errors import BadNumber, BadTimes, SameLamp
from kaleidorooms.halls import MOST_TIMES, Hall, need_hall, need_lamp
from kaleidorooms.logs import PRESSED
from kaleidorooms.plays import crossed, need_numbers, pressed, presses

MOST_NUMBER = 1000


class Desk:
    """A hall and numbers, changed by deeds that can be taken back and done again.

    How it stands is a triple of a hall, numbers, and the log of presses. It is kept how the desk stood at first,
    behind each deed in effect, and behind each deed that was taken back, the last taken one last.
    """

    def __init__(self, hall, numbers):
        need_hall(hall)
        need_numbers(hall, numbers)
        self._first = (hall, numbers, ())
        self._done = []
        self._undone = []

    def __len__(self):
        return len(self._done)

    def _stand(self):
        """How the desk stands now."""
        return self._done[-1] if self._done else self._first

    def _change(self, hall, numbers, log):
        """Keeps how the desk stands behind a new deed."""
        self._done.append((hall, numbers, log))
        self._undone = []

    @property
    def own_hall(self):
        return self._stand()[0]

    @property
    def own_numbers(self):
        return self._stand()[1]

    @property
    def own_log(self):
        return self._stand()[2]

    def press(self, lamp):
        """Presses a lamp."""
        hall, numbers, log = self._stand()
        self._change(hall, pressed(hall, numbers, lamp), log + ((PRESSED, lamp),))

    def cross(self, lamp):
        """Changes the numbers as going through the wall of a lamp does."""
        hall, numbers, log = self._stand()
        need_lamp(hall, lamp)
        self._change(hall, crossed(hall, numbers, lamp), log)

    def set_number(self, lamp, number):
        """Gives a lamp another number."""
        hall, numbers, log = self._stand()
        need_lamp(hall, lamp)
        if not is_integer_between(number, -MOST_NUMBER, MOST_NUMBER):
            raise BadNumber()
        self._change(hall, numbers[:lamp] + (number,) + numbers[lamp + 1:], log)

    def tie(self, one, other, times, back):
        """Lets a lamp push another one so many times, and this one push it back so many times."""
        hall, numbers, log = self._stand()
        need_lamp(hall, one)
        need_lamp(hall, other)
        if one == other:
            raise SameLamp()
        if not are_times(times, back):
            raise BadTimes()
        rows = [list(row) for row in hall.pushes]
        rows[one][other] = times
        rows[other][one] = back
        self._change(Hall(tuple([tuple(row) for row in rows])), numbers, log)

    def undo(self):
        """Takes back the last deed that is in effect; whether there was one."""
        if not self._done:
            return False
        self._undone.append(self._done.pop())
        return True

    def redo(self):
        """Does the deed again that was taken back last, if none was done since; whether there was one."""
        if not self._undone:
            return False
        self._done.append(self._undone.pop())
        return True

    def copy(self):
        """An independent desk that stands as this one, with all that can be taken back and done again."""
        hall, numbers, _ = self._first
        other = Desk(hall, numbers)
        other._done = list(self._done)
        other._undone = list(self._undone)
        return other

    def presses_left(self):
        """How many presses the plays of its numbers have that end, None if never_paper is not."""
        hall, numbers, _ = self._stand()
        return presses(hall, numbers)


def are_times(times, back):
    """Whether two values are how many times two lamps push each other: both integers from 1 to 4, or both 0."""
    if not is_integer_between(times, 0, MOST_TIMES) or not is_integer_between(back, 0, MOST_TIMES):
        return False
    return (times == 0) == (back == 0)
