"""Point 32: blocks of rooms."""

import unittest

from kaleidorooms import errors
from kaleidorooms.blocks import block, block_nearest, count_blocks
from kaleidorooms.halls import part_of
from kaleidorooms.rooms import distance
from kaleidorooms.suites import suite
from tests import arguments
from tests.helpers import (
    BENT, CHAIN, ENDLESS_HALLS, FULL, LAMP, NAMED, dice_of, expect_error, hall_of, led_plainly, lots_of_lamps,
    rooms_to, try_wrongs, words_to_rooms,
)

SMALL = [LAMP, CHAIN, NAMED["b", 2], NAMED["g", 2], hall_of(2), hall_of(3, (0, 2, 2, 1)), NAMED["a", 3]]


def words_of(hall, lamps):
    """For each room of the part of some lamps, a word of these lamps."""
    if not lamps:
        return [()]
    return [tuple([lamps[letter] for letter in word]) for word in words_to_rooms(part_of(hall, lamps)).values()]


class Blocks(unittest.TestCase):
    def test_against_all_words(self):
        for hall in SMALL:
            words, far = words_to_rooms(hall), rooms_to(hall, 100)
            for front in lots_of_lamps(hall):
                for back in lots_of_lamps(hall):
                    self.check_blocks(hall, words, far, front, back)

    def check_blocks(self, hall, words, far, front, back):
        first = (1,) * len(hall)
        ahead, behind = words_of(hall, front), words_of(hall, back)
        left, many = dict(words), 0
        while left:
            many += 1
            room = next(iter(left))
            found = {led_plainly(hall, first, one + words[room] + other) for one in ahead for other in behind}
            listed = sorted(found, key=lambda one: (far[one], one))
            for one in {room, listed[0], listed[-1], listed[len(listed) // 2]}:
                self.assertEqual(listed, block(hall, one, front, back))
                self.assertEqual(listed[0], block_nearest(hall, one, front, back))
            for one in found:
                del left[one]
        self.assertEqual(many, count_blocks(hall, front, back))

    def test_bent_halls(self):
        far = rooms_to(BENT, 100)
        words = words_to_rooms(BENT)
        for front, back in (((0,), (1, 2)), ((0, 1), (2,)), ((1,), (1,)), ((0, 2), (0, 1)), ((), (0, 2)), ((1, 2), ())):
            self.check_blocks(BENT, words, far, front, back)

    def test_front_and_back_alone(self):
        dice = dice_of(32)
        for hall in (NAMED["a", 3], BENT, NAMED["d", 4]):
            for _ in range(5):
                word, first = dice.choices(range(len(hall)), k=7), (1,) * len(hall)
                room, turned = led_plainly(hall, first, word), led_plainly(hall, first, word[::-1])
                lamps = tuple([lamp for lamp in range(len(hall)) if dice.random() < 0.5])
                self.assertEqual(suite(hall, room, lamps), block(hall, room, (), lamps))
                self.assertEqual([room], block(hall, room, (), ()))
                self.assertEqual(len(suite(hall, turned, lamps)), len(block(hall, room, lamps, ())))
                near = block_nearest(hall, turned, (), lamps)
                self.assertEqual(distance(hall, near), distance(hall, block_nearest(hall, room, lamps, ())))

    def test_front_is_not_back(self):
        self.assertEqual([(2, -1), (-2, 1)], block(CHAIN, (2, -1), (), (0,)))
        self.assertEqual([(2, -1), (1, -2)], block(CHAIN, (2, -1), (0,), ()))
        self.assertEqual(2, count_blocks(NAMED["b", 2], (0, 1), ()) + count_blocks(NAMED["b", 2], (), (0, 1)))

    def test_no_lamps_and_all_lamps(self):
        for hall in (CHAIN, BENT, NAMED["d", 4], NAMED["d", 5]):
            everyone = tuple(range(len(hall)))
            first, last = (1,) * len(hall), (-1,) * len(hall)
            many = len(rooms_to(hall, 100))
            self.assertEqual(many, count_blocks(hall, (), ()))
            self.assertEqual(1, count_blocks(hall, everyone, ()))
            self.assertEqual(1, count_blocks(hall, (), everyone))
            self.assertEqual(1, count_blocks(hall, everyone, everyone))
            self.assertEqual(many, len(block(hall, last, (), everyone)))
            self.assertEqual(first, block_nearest(hall, last, everyone, ()))
            self.assertEqual(first, block_nearest(hall, last, (), everyone))

    def test_big_blocks(self):
        hall = NAMED["d", 5]
        front, back = (0, 1, 2, 3), (1, 2, 3, 4)
        self.assertEqual(2, count_blocks(hall, front, back))
        blocks = {tuple(block(hall, room, front, back)) for room in ((1,) * 5, (-1,) * 5)}
        self.assertEqual(1920, sum(len(listed) for listed in blocks))
        self.assertEqual(2, len(blocks))
        for listed in blocks:
            self.assertEqual(sorted(listed, key=lambda room: (distance(hall, room), room)), list(listed))

    def test_too_many(self):
        beside = hall_of(6, (0, 1, 1, 1), (1, 2, 1, 1), (2, 3, 1, 1), (2, 4, 1, 1))
        for hall in (NAMED["e", 8], NAMED["a", 6], NAMED["b", 5], beside):
            room = (1,) * len(hall)
            expect_error(self, block, [hall, room, (), ()], errors.TooMany, most=2000)
            expect_error(self, block_nearest, [hall, room, (0,), ()], errors.TooMany, most=2000)
            expect_error(self, count_blocks, [hall, (), tuple(range(len(hall)))], errors.TooMany, most=2000)
            for function in (block, block_nearest):
                expect_error(self, function, [hall, None, (0,), ()], errors.BadRoom)
                expect_error(self, function, [hall, room, [0], ()], errors.BadLamps)
                expect_error(self, function, [hall, room, (0,), None], errors.BadLamps)
            expect_error(self, count_blocks, [hall, [0], ()], errors.BadLamps)
            expect_error(self, count_blocks, [hall, (0,), None], errors.BadLamps)

    def test_returned_lists_are_new(self):
        block(CHAIN, (1, 1), (0,), ()).clear()
        self.assertEqual([(1, 1), (-1, 2)], block(CHAIN, (1, 1), (0,), ()))

    def test_wrong_arguments(self):
        some = [wrong for wrong in arguments.part_lamps(BENT) if wrong.value != ()]
        rooms = arguments.room(BENT, (1, 1, 0), (2, 1, 1))
        for function in (block, block_nearest):
            try_wrongs(self, function, (BENT, (-1, -1, -1), (0,), (1, 2)), [arguments.NOT_ENDING, rooms, some, some])
        try_wrongs(self, count_blocks, (BENT, (0,), (1, 2)), [arguments.NOT_ENDING, some, some])
        for hall in ENDLESS_HALLS + [FULL]:
            expect_error(self, block, [hall, None, None, None], errors.NotEnding)
            expect_error(self, block_nearest, [hall, None, None, None], errors.NotEnding)
            expect_error(self, count_blocks, [hall, None, None], errors.NotEnding)


if __name__ == "__main__":
    unittest.main()
