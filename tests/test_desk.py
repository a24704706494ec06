"""Point 52: a desk that keeps a hall and numbers."""

import unittest

from kaleidorooms import errors
from kaleidorooms.desk import Desk
from kaleidorooms.halls import Hall
from kaleidorooms.plays import behind, presses
from tests import arguments
from tests.helpers import (
    BENT, CHAIN, LAMP, NO_INTEGERS, PAIR, RING, SOME_HALLS, dice_of, expect_error, hall_of, pressed_plainly,
    random_numbers, try_wrongs, wrongs,
)

DEEDS = ("press", "cross", "set_number", "tie")


class Model:
    """A desk told plainly: how it stood behind each deed."""

    def __init__(self, hall, numbers):
        self.stands = [(hall.pushes, numbers, ())]
        self.later = []

    def do(self, deed, more):
        pushes, numbers, log = self.stands[-1]
        if deed in ("press", "cross"):
            numbers = pressed_plainly(Hall(pushes), numbers, more[0])
            log += (("pressed", more[0]),) if deed == "press" else ()
        elif deed == "set_number":
            numbers = numbers[:more[0]] + (more[1],) + numbers[more[0] + 1:]
        else:
            rows = [list(row) for row in pushes]
            rows[more[0]][more[1]], rows[more[1]][more[0]] = more[2], more[3]
            pushes = tuple(map(tuple, rows))
        self.stands.append((pushes, numbers, log))
        self.later = []

    def undo(self):
        if len(self.stands) == 1:
            return False
        self.later.append(self.stands.pop())
        return True

    def redo(self):
        if not self.later:
            return False
        self.stands.append(self.later.pop())
        return True


def random_deed(dice, desk):
    """A deed that a desk may do, by dice, or None."""
    many = len(desk.own_hall)
    deed = dice.choice(DEEDS)
    lamp = dice.randrange(many)
    if deed == "press":
        able = [lamp for lamp in range(many) if desk.own_numbers[lamp] < 0]
        return (deed, [dice.choice(able)]) if able else None
    if deed == "cross":
        return deed, [lamp]
    if deed == "set_number":
        return deed, [lamp, dice.choice((-1000, 1000, 0, dice.randint(-9, 9)))]
    if many == 1:
        return None
    times = dice.choice([(0, 0), (dice.randint(1, 4), dice.randint(1, 4))])
    return deed, dice.sample(range(many), 2) + list(times)


class Desks(unittest.TestCase):
    def stands_as(self, desk, model):
        """Tests that a desk stands as its model."""
        pushes, numbers, log = model.stands[-1]
        self.assertEqual(pushes, desk.own_hall.pushes)
        self.assertIsInstance(desk.own_hall, Hall)
        self.assertEqual((numbers, log), (desk.own_numbers, desk.own_log))
        self.assertEqual(len(model.stands) - 1, len(desk))

    def test_drawn_deeds(self):
        dice = dice_of(520)
        for hall in SOME_HALLS:
            numbers = random_numbers(dice, hall, 5)
            desk, model = Desk(hall, numbers), Model(hall, numbers)
            for _ in range(80):
                way = dice.random()
                if way < 0.2:
                    self.assertIs(model.undo(), desk.undo())
                elif way < 0.35:
                    self.assertIs(model.redo(), desk.redo())
                else:
                    told = random_deed(dice, desk)
                    if told is not None:
                        self.assertIsNone(getattr(desk, told[0])(*told[1]))
                        model.do(*told)
                self.stands_as(desk, model)
            while model.undo():
                self.assertIs(True, desk.undo())
                self.stands_as(desk, model)
            self.assertIs(False, desk.undo())
            while model.redo():
                self.assertIs(True, desk.redo())
                self.stands_as(desk, model)
            self.assertIs(False, desk.redo())

    def test_nothing_done(self):
        desk = Desk(RING, (1, -1, 0))
        self.assertEqual((RING, (1, -1, 0), (), 0), (desk.own_hall, desk.own_numbers, desk.own_log, len(desk)))
        self.assertIs(False, desk.undo())
        self.assertIs(False, desk.redo())
        self.assertEqual((RING, (1, -1, 0), (), 0), (desk.own_hall, desk.own_numbers, desk.own_log, len(desk)))

    def test_log_of_presses(self):
        desk = Desk(CHAIN, (-1, -2))
        for lamp in (0, 1, 0):
            desk.press(lamp)
        self.assertEqual((("pressed", 0), ("pressed", 1), ("pressed", 0)), desk.own_log)
        desk.cross(0)
        desk.set_number(1, -5)
        desk.tie(0, 1, 2, 3)
        self.assertEqual(3, len(desk.own_log))
        desk.press(1)
        self.assertEqual((("pressed", 0), ("pressed", 1), ("pressed", 0), ("pressed", 1)), desk.own_log)
        for _ in range(5):
            desk.undo()
        self.assertEqual((("pressed", 0), ("pressed", 1)), desk.own_log)
        self.assertEqual(behind(CHAIN, (-1, -2), (0, 1)), desk.own_numbers)
        # It may be longer than a log that functions take.
        long = Desk(PAIR, (-1, -2))
        for turn in range(30):
            long.press(turn % 2)
        self.assertEqual((30, 30), (len(long.own_log), len(long)))

    def test_a_deed_behind_an_undo(self):
        desk = Desk(CHAIN, (-1, -2))
        desk.press(0)
        desk.press(1)
        self.assertIs(True, desk.undo())
        desk.set_number(0, 9)
        self.assertIs(False, desk.redo())
        self.assertEqual(((9, -3), 2), (desk.own_numbers, len(desk)))
        self.assertEqual([True, True, False], [desk.undo() for _ in range(3)])
        self.assertEqual([True, True, False], [desk.redo() for _ in range(3)])
        self.assertEqual((9, -3), desk.own_numbers)

    def test_the_same_number_again_is_a_deed(self):
        desk = Desk(LAMP, (7,))
        desk.set_number(0, 7)
        desk.set_number(0, 7)
        self.assertEqual(2, len(desk))
        two = Desk(CHAIN, (0, 0))
        two.tie(0, 1, 1, 1)
        two.cross(0)
        self.assertEqual(((0, 0), 2), (two.own_numbers, len(two)))

    def test_deeds_refused_change_nothing(self):
        desk = Desk(CHAIN, (-1, 2))
        desk.press(0)
        desk.undo()
        for deed, more, error in (
            ("press", [1], errors.NotBelow), ("press", [2], errors.BadLamp), ("cross", [-1], errors.BadLamp),
            ("set_number", [0, 1001], errors.BadNumber), ("tie", [0, 0, 1, 1], errors.SameLamp),
            ("tie", [0, 1, 0, 1], errors.BadTimes),
        ):
            expect_error(self, getattr(desk, deed), more, error)
            self.assertEqual(((-1, 2), (), 0, CHAIN), (desk.own_numbers, desk.own_log, len(desk), desk.own_hall))
        # What was taken back can still be done again.
        self.assertIs(True, desk.redo())
        self.assertEqual((1, 1), desk.own_numbers)

    def test_ties(self):
        desk = Desk(hall_of(3), (1, 2, 3))
        desk.tie(2, 0, 4, 3)
        self.assertEqual(((0, 0, 3), (0, 0, 0), (4, 0, 0)), desk.own_hall.pushes)
        desk.tie(0, 2, 1, 2)
        self.assertEqual(((0, 0, 1), (0, 0, 0), (2, 0, 0)), desk.own_hall.pushes)
        desk.tie(0, 2, 0, 0)
        self.assertEqual((hall_of(3), (1, 2, 3), 3), (desk.own_hall, desk.own_numbers, len(desk)))
        desk.undo()
        self.assertEqual(1, desk.own_hall.pushes[0][2])

    def test_copies_are_independent(self):
        desk = Desk(CHAIN, (-1, -2))
        desk.press(0)
        desk.press(1)
        desk.undo()
        other = desk.copy()
        self.assertIsInstance(other, Desk)
        self.assertEqual((desk.own_hall, desk.own_numbers, desk.own_log, 1),
                         (other.own_hall, other.own_numbers, other.own_log, len(other)))
        self.assertIs(True, other.redo())
        self.assertEqual((1, 2), (len(desk), len(other)))
        other.tie(0, 1, 4, 4)
        other.set_number(0, 1000)
        self.assertEqual((CHAIN, (1, -3), 1), (desk.own_hall, desk.own_numbers, len(desk)))
        desk.set_number(1, 0)
        self.assertEqual(4, len(other))
        self.assertEqual([True] * 4 + [False], [other.undo() for _ in range(5)])
        self.assertEqual((-1, -2), other.own_numbers)
        self.assertEqual([True, True, False], [desk.undo() for _ in range(3)])
        self.assertEqual([True] * 4 + [False], [other.redo() for _ in range(5)])
        third = Desk(CHAIN, (0, 0)).copy()
        self.assertEqual([False, False], [third.undo(), third.redo()])

    def test_presses_left(self):
        dice = dice_of(521)
        for hall in (LAMP, CHAIN, BENT, PAIR, RING):
            for _ in range(5):
                numbers = random_numbers(dice, hall, 4)
                desk = Desk(hall, numbers)
                self.assertEqual(presses(hall, numbers), desk.presses_left())
                desk.cross(0)
                self.assertEqual(presses(hall, pressed_plainly(hall, numbers, 0)), desk.presses_left())
        self.assertIsNone(Desk(PAIR, (-1, 0)).presses_left())
        desk = Desk(PAIR, (-7000, 7001))
        expect_error(self, desk.presses_left, [], errors.TooLong, most=5000)
        desk.tie(0, 1, 1, 1)
        self.assertEqual(1, desk.presses_left())

    def test_properties_cannot_be_set(self):
        desk = Desk(CHAIN, (-1, -2))
        for name in ("own_hall", "own_numbers", "own_log"):
            with self.assertRaises(AttributeError):
                setattr(desk, name, ())

    def test_methods_are_its_own(self):
        for name in ("press", "cross", "set_number", "tie", "undo", "redo", "copy", "presses_left", "__len__",
                     "own_hall", "own_numbers", "own_log"):
            self.assertIn(name, vars(Desk))
        self.assertNotEqual(Desk(LAMP, (0,)), (LAMP, (0,), ()))


class WrongArguments(unittest.TestCase):
    def test_wrong_arguments(self):
        halls, lamps = arguments.HALL, arguments.lamp(BENT)
        numbers = wrongs(errors.BadNumber, NO_INTEGERS + [-1001, 1001, 10 ** 30, "5", [5]])
        try_wrongs(self, Desk, (BENT, (-1, -1, -1)), [halls, arguments.numbers(BENT)])
        desk = Desk(BENT, (-1, 1, 0))
        above = wrongs(errors.NotBelow, [1, 2])
        try_wrongs(self, lambda lamp: desk.copy().press(lamp), (0,), [lamps + above])
        try_wrongs(self, lambda lamp: desk.copy().cross(lamp), (1,), [lamps])
        try_wrongs(self, lambda *more: desk.copy().set_number(*more), (2, -1000), [lamps, numbers])
        try_wrongs(self, lambda *more: desk.copy().tie(*more), (0, 2, 1, 4), [lamps, lamps, [], []])
        self.assertEqual(0, len(desk))

    def test_wrong_times(self):
        desk = Desk(BENT, (-1, 1, 0))
        listed = NO_INTEGERS + [-1, 5, 10 ** 30, "1", [1], (1, 1)]
        pairs = [(wrong, right) for wrong in listed for right in (0, 1, 4)] + [(0, 1), (0, 4), (-1, -1)]
        pairs += [(back, times) for times, back in pairs] + [(None, None), (True, True), (False, False)]
        for times, back in pairs:
            expect_error(self, desk.tie, [0, 1, times, back], errors.BadTimes)
            expect_error(self, desk.tie, [1, 1, times, back], errors.SameLamp)
            expect_error(self, desk.tie, [1, 3, times, back], errors.BadLamp)
            expect_error(self, desk.tie, [None, 1, times, back], errors.BadLamp)
        self.assertEqual((BENT, 0), (desk.own_hall, len(desk)))
        for times, back in ((0, 0), (1, 4), (4, 1), (3, 2)):
            desk.tie(0, 1, times, back)
        self.assertEqual(4, len(desk))


if __name__ == "__main__":
    unittest.main()
