"""Points 38 and 40: words that shift, and shifts."""

import unittest
from itertools import combinations, product

from kaleidorooms import errors
from kaleidorooms.flats import level
from kaleidorooms.loads import load
from kaleidorooms.plays import presses
from kaleidorooms.rooms import distance, is_room
from kaleidorooms.series import corner
from kaleidorooms.shifts import (
    echelon, is_whole_sum, place_of, shift_of, shift_split, shift_word, shifted,
)
from tests import arguments
from tests.helpers import (
    FLATS, LEAN, PAIR, RING, chain_of, dice_of, expect_error, led_plainly, pressed_plainly, random_numbers, ring_of,
    summed, try_wrongs, units_plainly, words_to_rooms, wrongs,
)
from tests.test_flats import NOT_FLAT

DEEP = {2: 24, 3: 12, 4: 8, 5: 6, 6: 5, 7: 4, 8: 3}
TRIPLES = [chain_of(3, (0, 1, 3, 1)), chain_of(3, (0, 1, 1, 3))]
SMALL = [hall for hall in FLATS if len(hall) <= 3]
BIGGEST = FLATS[-1]


def load_of(hall):
    """The load of a hall that is one flat wing."""
    return load(hall, tuple(range(len(hall))))


def does_shift(hall, word):
    """Whether a word changes no numbers of level 0: none of those that make all others by sums."""
    worth, units = load_of(hall), units_plainly(hall)
    for one, other in combinations(range(len(hall)), 2):
        numbers = tuple([worth[other] * own - worth[one] * its for own, its in zip(units[one], units[other])])
        if led_plainly(hall, numbers, word) != numbers:
            return False
    return True


def shifts_to(hall, far):
    """The shifts of all rooms up to a distance whose words shift, with the least of the shortest words."""
    many = sum(load_of(hall))
    found = {}
    for room, word in words_to_rooms(hall, far).items():
        if does_shift(hall, word):
            found[tuple([(number - 1) // many for number in room])] = word
    return found


class ShiftOf(unittest.TestCase):
    def test_short_words(self):
        dice = dice_of(380)
        for hall in FLATS:
            words = list(words_to_rooms(hall, DEEP[len(hall)]).values())
            for word in dice.sample(words, min(60, len(words))):
                shift = shift_of(hall, word)
                self.assertIs(does_shift(hall, word), shift is not None)
                if shift is not None:
                    self.shifts_all_numbers(hall, word, shift, dice)

    def shifts_all_numbers(self, hall, word, shift, dice):
        self.assertEqual((0, 0), (level(hall, shift), len(word) % 2))
        for far in (1, 9, 10 ** 20):
            numbers = random_numbers(dice, hall, far)
            moved = summed(numbers, shift, level(hall, numbers))
            self.assertEqual(moved, led_plainly(hall, numbers, word))
            self.assertEqual(moved, shifted(hall, numbers, shift))

    def test_all_words(self):
        for hall in SMALL:
            many = 0
            for length in range(7 if len(hall) == 2 else 6):
                for word in product(range(len(hall)), repeat=length):
                    shift = shift_of(hall, word)
                    self.assertIs(does_shift(hall, word), shift is not None)
                    many += shift is not None
                    if shift is not None:
                        zeros = (0,) * len(hall)
                        self.assertEqual(led_plainly(hall, (1,) + zeros[1:], word),
                                         shifted(hall, (1,) + zeros[1:], shift))
            self.assertGreater(many, 0)

    def test_words_of_two_parts(self):
        dice = dice_of(381)
        for hall in FLATS:
            words = self.some_words(hall, dice)
            for one, other in zip(words, words[1:]):
                if len(one + other) <= 60:
                    both = summed(shift_of(hall, one), shift_of(hall, other))
                    self.assertEqual(both, shift_of(hall, one + other))
                    self.assertEqual(both, shift_of(hall, other + one))
            self.assertEqual((0,) * len(hall), shift_of(hall, words[0][:30] + words[0][:30][::-1]))

    def some_words(self, hall, dice):
        """Words that shift: with words ahead that are read backwards behind."""
        found = []
        inner = shift_word(hall, self.least_shift(hall))
        for _ in range(5):
            ahead = tuple([dice.randrange(len(hall)) for _ in range(dice.randrange(4))])
            if len(inner) + 2 * len(ahead) <= 60:
                found.append(ahead + inner + ahead[::-1])
        return found if found else [()]

    def least_shift(self, hall):
        """What the corner's wall takes off numbers, which some word shifts."""
        lamp = corner(hall)
        return tuple([2 if at == lamp else -times for at, times in enumerate(hall.pushes[lamp])])

    def test_words_without_letters(self):
        for hall in FLATS:
            zeros = (0,) * len(hall)
            self.assertEqual(zeros, shift_of(hall, ()))
            self.assertEqual((), shift_word(hall, zeros))
            self.assertEqual((zeros, ()), shift_split(hall, (1,) * len(hall)))
            self.assertEqual(zeros, shift_of(hall, (0, 0)))
            self.assertIsNone(shift_of(hall, (0,)))

    def test_words_of_60_letters(self):
        self.assertEqual((60, -60), shift_of(PAIR, (0, 1) * 30))
        self.assertEqual((0, 0), shift_of(PAIR, (0,) * 60))
        self.assertIsNone(shift_of(PAIR, (0, 1) * 29 + (0,)))


class Shifted(unittest.TestCase):
    def test_any_shift_of_level_nought(self):
        self.assertEqual((4, -3), shifted(PAIR, (0, 1), (4, -4)))
        self.assertEqual((1, 0), shifted(PAIR, (0, 1), (1, -1)))
        self.assertEqual((3, -3), shifted(PAIR, (3, -3), (10 ** 30, -10 ** 30)))
        self.assertEqual((-32, 37), shifted(PAIR, (3, 2), (-7, 7)))
        self.assertEqual((-11, 9), shifted(PAIR, (3, -5), (7, -7)))
        self.assertEqual((5, -9), shifted(LEAN, (1, -1), (4, -8)))
        self.assertEqual((-2, 5), shifted(LEAN, (1, -1), (-3, 6)))
        self.assertEqual((1, 9), shifted(LEAN, (1, 9), (0, 0)))

    def test_starts_shifted_end_alike(self):
        dice = dice_of(382)
        for hall in FLATS[:20]:
            shift = tuple([2 if at == corner(hall) else -times for at, times in enumerate(hall.pushes[corner(hall)])])
            for _ in range(4):
                start = random_numbers(dice, hall, 2)
                self.assertIs(presses(hall, start) is None, presses(hall, shifted(hall, start, shift)) is None)


class ShiftWord(unittest.TestCase):
    def test_least_of_the_shortest_words(self):
        for hall in FLATS:
            shifts = shifts_to(hall, DEEP[len(hall)])
            for shift, word in shifts.items():
                self.assertEqual(word, shift_word(hall, shift))
                self.assertEqual(shift, shift_of(hall, word))

    def test_shifts_that_no_word_has(self):
        for hall, most, far in ((PAIR, 12, 24), (LEAN, 12, 30), (RING, 3, 12), (SMALL[3], 3, 16), (SMALL[4], 3, 16),
                                (SMALL[5], 3, 16), (TRIPLES[0], 3, 24), (TRIPLES[1], 3, 24)):
            known = shifts_to(hall, far)
            tried = [shift for shift in product(range(-most, most + 1), repeat=len(hall)) if level(hall, shift) == 0]
            words = {shift: shift_word(hall, shift) for shift in tried}
            self.assertIs(hall in (LEAN, SMALL[3], TRIPLES[0]), None not in words.values())
            for shift, word in words.items():
                self.assertEqual(known.get(shift), word if word is None or len(word) <= far else None)
                if word is not None:
                    self.assertEqual(shift, shift_of(hall, word))

    def test_all_turned_by_words(self):
        for hall in FLATS:
            lamp = corner(hall)
            shift = tuple([2 if at == lamp else -times for at, times in enumerate(hall.pushes[lamp])])
            for other in range(len(hall)):
                beyond = pressed_plainly(hall, shift, other)
                self.assertEqual(beyond, shift_of(hall, shift_word(hall, beyond)))

    def test_words_of_60_letters_and_more(self):
        self.assertEqual((0, 1) * 30, shift_word(PAIR, (60, -60)))
        for far in (62, 5000, 10 ** 30):
            expect_error(self, shift_word, [PAIR, (far, -far)], errors.TooLong, most=60)
            expect_error(self, shift_word, [PAIR, (-far, far)], errors.TooLong, most=60)
            self.assertIsNone(shift_word(PAIR, (far + 1, -far - 1)))
        self.assertEqual((1, 0) * 30, shift_word(PAIR, (-60, 60)))
        self.assertIsNone(shift_word(PAIR, (61, -61)))
        self.assertEqual(60, len(shift_word(RING, (15, 15, -30))))
        for times in (16, 10 ** 20):
            expect_error(self, shift_word, [RING, (times, times, -2 * times)], errors.TooLong, most=60)

    def test_far_shifts_of_all_halls(self):
        for hall in FLATS:
            lamp = corner(hall)
            shift = tuple([2 if at == lamp else -times for at, times in enumerate(hall.pushes[lamp])])
            far = tuple([10 ** 30 * own for own in shift])
            expect_error(self, shift_word, [hall, far], errors.TooLong, most=60)
        self.assertIsNone(shift_word(PAIR, (10 ** 30 + 1, -10 ** 30 - 1)))
        self.assertIsNone(shift_word(RING, (10 ** 30, 0, -10 ** 30)))

    def test_shifts_of_rooms_are_rooms(self):
        for hall in FLATS:
            lamp = corner(hall)
            shift = tuple([2 if at == lamp else -times for at, times in enumerate(hall.pushes[lamp])])
            for word in ((), (0,), (1, 0), (0, 1, 0)):
                room = led_plainly(hall, (1,) * len(hall), word)
                self.assertTrue(is_room(hall, shifted(hall, room, shift)))
        # A shift that no word has may lead from the first room to a room, too.
        self.assertTrue(is_room(PAIR, shifted(PAIR, (1, 1), (1, -1))))
        self.assertIsNone(shift_word(PAIR, (1, -1)))


class ShiftSplit(unittest.TestCase):
    def test_just_one_split(self):
        for hall in SMALL:
            shifts = shifts_to(hall, DEEP[len(hall)])
            others = [lamp for lamp in range(len(hall)) if lamp != corner(hall)]
            words = [word for word in words_to_rooms(hall, 8).values() if all(lamp in others for lamp in word)]
            splits = {}
            for word in words:
                for shift in shifts:
                    room = shifted(hall, led_plainly(hall, (1,) * len(hall), word), shift)
                    splits.setdefault(room, []).append((shift, word))
            for room in words_to_rooms(hall, DEEP[len(hall)] // 2):
                self.assertEqual([shift_split(hall, room)], splits[room])

    def test_bigger_halls(self):
        dice = dice_of(383)
        for hall in FLATS:
            for long in (3, 10, 40):
                word = tuple([dice.randrange(len(hall)) for _ in range(long)])
                room = led_plainly(hall, (1,) * len(hall), word)
                shift, rest = shift_split(hall, room)
                self.assertEqual(room, shifted(hall, led_plainly(hall, (1,) * len(hall), rest), shift))
                self.assertNotIn(corner(hall), rest)
                self.assertEqual(distance(hall, led_plainly(hall, (1,) * len(hall), rest)), len(rest))
                self.has_word(hall, shift)

    def has_word(self, hall, shift):
        try:
            self.assertEqual(shift, shift_of(hall, shift_word(hall, shift)))
        except errors.TooLong as error:
            self.assertEqual(60, error.most)

    def test_far_rooms(self):
        room = shifted(PAIR, (1, 1), (4998, -4998))
        self.assertEqual(((4998, -4998), ()), shift_split(PAIR, room))
        self.assertEqual(((5000, -5000), ()), shift_split(PAIR, shifted(PAIR, (1, 1), (5000, -5000))))
        expect_error(self, shift_split, [PAIR, shifted(PAIR, (1, 1), (5002, -5002))], errors.TooLong, most=5000)

    def test_longest_word(self):
        # The other lamps of this hall have a room at the distance 63.
        room = (1,) * 8
        hall = BIGGEST
        others = [lamp for lamp in range(8) if lamp != corner(hall)]
        while any(room[lamp] > 0 for lamp in others):
            room = pressed_plainly(hall, room, [lamp for lamp in others if room[lamp] > 0][0])
        shift, word = shift_split(hall, room)
        self.assertEqual(((0,) * 8, 63), (shift, len(word)))
        self.assertEqual(room, led_plainly(hall, (1,) * 8, word))
        pair = shift_split(ring_of(4), led_plainly(ring_of(4), (1,) * 4, (3, 2, 3, 1)))
        self.assertEqual(((0,) * 4, (2, 3, 2, 1)), pair)


class Echelons(unittest.TestCase):
    """What tells whether some word has a shift."""

    def test_places(self):
        dice = dice_of(384)
        for _ in range(200):
            many, size = dice.randint(0, 6), dice.randint(1, 5)
            rows = [tuple([dice.randint(-6, 6) for _ in range(size)]) for _ in range(many)]
            found = echelon(rows)
            places = [place_of(row) for row in found]
            self.assertEqual(sorted(set(places)), places)
            for row in rows:
                self.assertIs(True, is_whole_sum(found, row))
            mixed = (0,) * size
            for row in rows:
                mixed = summed(mixed, row, dice.randint(-10 ** 6, 10 ** 6))
            self.assertIs(True, is_whole_sum(found, mixed))

    def test_whole_sums(self):
        rows = [(2, 0), (3, 1), (0, 4)]
        # 3 - 2 is 1, and 2 of these less the first are (0, 2).
        for value in product(range(-5, 6), repeat=2):
            sums = [(2 * a + 3 * b, b + 4 * c) for a in range(-20, 21) for b in range(-9, 10) for c in range(-4, 5)]
            self.assertIs(value in sums, is_whole_sum(echelon(rows), value))
        self.assertIs(False, is_whole_sum(echelon([(4, 0), (6, 0)]), (1, 0)))
        self.assertIs(True, is_whole_sum(echelon([(4, 0), (6, 0)]), (-2, 0)))
        self.assertIs(False, is_whole_sum([], (0, 1)))
        self.assertIs(True, is_whole_sum([], (0, 0)))


class WrongArguments(unittest.TestCase):
    def test_not_flat(self):
        for hall in NOT_FLAT:
            for function, more in (
                (shift_of, [None]), (shifted, [None, None]), (shift_word, [None]), (shift_split, [None]),
                (shift_of, [(0,)]), (shift_split, [(1,) * len(hall)]),
            ):
                expect_error(self, function, [hall] + more, errors.NotFlat)

    def test_wrong_arguments(self):
        halls = arguments.HALL + wrongs(errors.NotFlat, NOT_FLAT)
        hall = chain_of(3, (0, 1, 2, 1), (1, 2, 1, 2))
        listed = [wrong.value for wrong in arguments.numbers(hall)]
        shifts = wrongs(errors.BadShift, listed + [(1, 0, 0), (0, 0, -1), (10 ** 30, 0, 0), (1, 1, 1), (2, -1, 1)])
        zeros = (0, 0, 0)
        try_wrongs(self, shift_of, (hall, (0, 1, 2)), [halls, arguments.word(hall, 0, 1)])
        try_wrongs(self, shifted, (hall, (1, 2, 3), zeros), [halls, arguments.numbers(hall), shifts])
        try_wrongs(self, shift_word, (hall, zeros), [halls, shifts])
        try_wrongs(self, shift_split, (hall, (-1, 3, 1)), [halls, arguments.room(hall, (2, 1, 1))])


if __name__ == "__main__":
    unittest.main()
