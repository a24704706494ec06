"""Point 51: texts of halls with numbers."""

import unittest

from kaleidorooms import errors
from kaleidorooms.halls import Hall
from kaleidorooms.texts import read, write
from tests import arguments
from tests.helpers import (
    BENT, CHAIN, FULL, LAMP, MIXED, NAMED, SOME_HALLS, dice_of, expect_error, hall_of, random_hall, random_numbers,
    try_wrongs, wrongs,
)

BIG = 10 ** 30 - 1
LOW = 1 - 10 ** 29


def some_texts(seed):
    """Halls with numbers and their texts, by dice."""
    dice = dice_of(seed)
    halls = SOME_HALLS + [FULL] + [random_hall(dice, many, tied=0.4) for many in range(1, 9) for _ in range(6)]
    for hall in halls:
        numbers = random_numbers(dice, hall, dice.choice((0, 3, 10 ** 10, -LOW)))
        yield hall, numbers, write(hall, numbers)


class Write(unittest.TestCase):
    def test_lines(self):
        self.assertEqual("lamp 0 has 0", write(LAMP, (0,)))
        self.assertEqual("lamp 0 has -1 pushes 1 1\nlamp 1 has 5 pushes 0 1 2 2\nlamp 2 has 0 pushes 1 1",
                         write(BENT, (-1, 5, 0)))
        self.assertEqual("lamp 0 has 7\nlamp 1 has 8", write(hall_of(2), (7, 8)))
        full = write(FULL, tuple(range(-4, 4))).split("\n")
        self.assertEqual(8, len(full))
        self.assertEqual("lamp 7 has 3 pushes 0 4 1 4 2 4 3 4 4 4 5 4 6 4", full[7])
        self.assertEqual("lamp 0 has -4 pushes 1 4 2 4 3 4 4 4 5 4 6 4 7 4", full[0])

    def test_numbers_of_30_signs_and_more(self):
        self.assertEqual("lamp 0 has " + "9" * 30, write(LAMP, (BIG,)))
        self.assertEqual("lamp 0 has -" + "9" * 29, write(LAMP, (LOW,)))
        for number in (BIG + 1, LOW - 1, 10 ** 40, -10 ** 40, 10 ** 6000, -10 ** 6000):
            # Python itself does not write the last ones.
            for hall, numbers in ((LAMP, (number,)), (CHAIN, (0, number)), (CHAIN, (number, 0))):
                self.assertRaises(errors.BadNumbers, write, hall, numbers)

    def test_wrong_arguments(self):
        more = wrongs(errors.BadNumbers, [(0, BIG + 1, 0), (LOW - 1, 0, 0), (0, 0, 10 ** 31)])
        try_wrongs(self, write, (BENT, (1, 2, 3)), [arguments.HALL, arguments.numbers(BENT) + more])


class Read(unittest.TestCase):
    def cannot(self, text, line, word):
        """Tests that a text cannot be read, because of a word of a line."""
        expect_error(self, read, [text], errors.InvalidText, line=line, word=word)

    def test_what_was_written(self):
        for hall, numbers, text in some_texts(510):
            found = read(text)
            self.assertIsInstance(found, tuple)
            self.assertIsInstance(found[0], Hall)
            self.assertEqual((hall, numbers), found)
            self.assertEqual(text, write(*found))

    def test_spaces(self):
        dice = dice_of(511)
        for hall, numbers, text in some_texts(512):
            lines = [line.split(" ") for line in text.split("\n")]
            wide = ["".join(" " * dice.randrange(3) + " " + word for word in line) + " " * dice.randrange(3)
                    for line in lines]
            self.assertEqual((hall, numbers), read("\n".join(wide)))
        for text in ("lamp 0 has\t7", "\tlamp 0 has 7", "lamp 0 has 7\t", "lamp\u00a00 has 7", "lamp 0 has 7\r"):
            self.assertRaises(errors.InvalidText, read, text)
        self.cannot("lamp 0 has 7\r\nlamp 1 has 8", 1, 4)
        self.cannot("lamp\t0 has 7", 1, 1)
        self.cannot("lamp 0 has 7 \t", 1, 5)
        self.cannot("lamp 0 has\x0b7", 1, 3)

    def test_none_and_nine_lines(self):
        self.cannot("", 1, 1)
        self.cannot("   ", 1, 1)
        self.cannot("\n", 1, 1)
        eight = "\n".join(f"lamp {lamp} has 0" for lamp in range(8))
        self.assertEqual((hall_of(8), (0,) * 8), read(eight))
        for ninth in ("lamp 8 has 0", "", "  ", "x", "lamp 7 has 0"):
            self.cannot(eight + "\n" + ninth, 9, 1)
            self.cannot(eight + "\n" + ninth + "\nx", 9, 1)
        self.cannot(eight.replace("lamp 7 has 0", "lamp 7 has") + "\nlamp 8 has 0", 8, 4)
        self.cannot(write(FULL, (1,) * 8) + "\n", 9, 1)

    def test_no_newline_behind(self):
        self.cannot("lamp 0 has 7\n", 2, 1)
        self.cannot("\nlamp 0 has 7", 1, 1)
        self.cannot("lamp 0 has 7\n\nlamp 1 has 7", 2, 1)
        self.cannot("lamp 0 has 7 \n ", 2, 1)

    def test_each_word(self):
        for hall, _, text in some_texts(513):
            lines = [line.split(" ") for line in text.split("\n")]
            for at, words in enumerate(lines):
                for place in range(len(words)):
                    for wrong in ("x", "", "lamps", "-", "+1", "01", "-0", "9", "0.5", "1_0", "pushes,"):
                        if wrong == "9" and place == 3:
                            continue
                        changed = words[:place] + ([wrong] if wrong else []) + words[place + 1:]
                        if not wrong:
                            # The line ends here.
                            changed = words[:place]
                        self.wrong_here(lines, at, changed, place)

    def wrong_here(self, lines, at, changed, place):
        """Tests that a changed line cannot stand from this word on, if it cannot end there."""
        owed = sum(f" {at} " in " " + " ".join(lines[other][5::2]) + " " for other in range(at))
        may_end = place == 4 and owed == 0 or place > 5 and place % 2 == 1 and place >= 5 + 2 * owed
        if len(changed) == place and may_end:
            return
        text = "\n".join(" ".join(line) for line in lines[:at] + [changed] + lines[at + 1:])
        self.cannot(text, at + 1, place + 1)

    def test_lines_that_end_too_early(self):
        for words, place in (("lamp", 2), ("lamp 0", 3), ("lamp 0 has", 4), ("lamp 0 has 1 pushes", 6),
                             ("lamp 0 has 1 pushes 1", 7), ("lamp 0 has 1 pushes 1 1 2", 9)):
            self.cannot(words, 1, place)
            self.cannot(words + "\nlamp 1 has 2", 1, place)
            self.cannot("  " + words.replace(" ", "  ") + "  \nx", 1, place)
        first = "lamp 0 has 1 pushes 1 1 2 3\n"
        self.cannot(first + "lamp 1 has 2", 2, 5)
        self.cannot(first + "lamp 1 has 2 pushes", 2, 6)
        self.cannot(first + "lamp 1 has 2 pushes 0", 2, 7)
        second = first + "lamp 1 has 2 pushes 0 1 2 1\n"
        self.cannot(second + "lamp 2 has 3", 3, 5)
        self.cannot(second + "lamp 2 has 3 pushes 0 1", 3, 8)
        self.assertEqual(((0, 1, 3), (1, 0, 1), (1, 4, 0)), read(second + "lamp 2 has 3 pushes 0 1 1 4")[0].pushes)

    def test_lamps_in_order(self):
        self.cannot("lamp 1 has 0", 1, 2)
        self.cannot("lamp 0 has 0\nlamp 0 has 0", 2, 2)
        self.cannot("lamp 0 has 0\nlamp 2 has 0", 2, 2)
        for word in ("00", "+0", "-0", "0x0", "0.", "zero", "\u0660", "\u00b2"):
            self.cannot(f"lamp {word} has 0", 1, 2)

    def test_integers(self):
        for word in ("9" * 30, "-" + "9" * 29, "0", "7", "-7", "10", "-100", "1" + "0" * 29):
            self.assertEqual((int(word),), read(f"lamp 0 has {word}")[1])
        for word in ("9" * 31, "-" + "9" * 30, "1" + "0" * 30, "9" * 5000, "00", "-0", "+7", "07", "-07", "--7", "-",
                     "7-", "7.0", "1e3", "0x7", "1_000", "seven", "\u0667", "\u00b2", "7,", "-+7", "000", "True",
                     "7pushes"):
            self.cannot(f"lamp 0 has {word}", 1, 4)
            self.cannot(f"lamp 0 has {word} pushes 1 1\nlamp 1 has 0 pushes 0 1", 1, 4)

    def test_pushes(self):
        for word in ("Pushes", "push", "1", "pushespushes", "has"):
            self.cannot(f"lamp 0 has 1 {word} 1 1\nlamp 1 has 1 pushes 0 1", 1, 5)
        for lamp in ("0", "-1", "8", "9", "10", "01", "+1", "x", "1.", "\u0661"):
            self.cannot(f"lamp 0 has 1 pushes {lamp} 1\nlamp 1 has 1 pushes 0 1", 1, 6)
        for times in ("0", "5", "-1", "01", "+1", "12", "x", "1.", "\u0661", "10"):
            self.cannot(f"lamp 0 has 1 pushes 1 {times}\nlamp 1 has 1 pushes 0 1", 1, 7)
            self.cannot(f"lamp 0 has 1 pushes 1 1\nlamp 1 has 1 pushes 0 {times}", 2, 7)
        for lamp in ("1", "0", "2 1 2", "2 1 1", "2 1 0"):
            word = 8 if lamp in ("1", "0") else 10
            self.cannot(f"lamp 0 has 1 pushes 1 1 {lamp} 1", 1, word)
        self.cannot("lamp 0 has 1 pushes 7 1 8 1", 1, 8)
        self.cannot("lamp 0 has 1 pushes 7 4 7 4", 1, 8)

    def test_lesser_lamps(self):
        # A lesser lamp whose line does not tell this line's lamp cannot stand.
        self.cannot("lamp 0 has 1\nlamp 1 has 2 pushes 0 1", 2, 6)
        self.cannot("lamp 0 has 1\nlamp 1 has 2 pushes 2 1 0 1\nlamp 2 has 3 pushes 1 1", 2, 8)
        # Ahead of one whose line does tell it no greater one can stand, and the line cannot end.
        two = "lamp 0 has 1 pushes 2 1\nlamp 1 has 2 pushes 2 1\n"
        self.cannot(two + "lamp 2 has 3 pushes 1 1", 3, 6)
        self.cannot(two + "lamp 2 has 3 pushes 3 1", 3, 6)
        self.cannot(two + "lamp 2 has 3 pushes 0 1 3 1", 3, 8)
        self.cannot(two + "lamp 2 has 3 pushes 0 1", 3, 8)
        self.cannot(two + "lamp 2 has 3 pushes 0 1 0 1", 3, 8)
        self.cannot(two + "lamp 2 has 3 pushes 0 1 1 1 1 1", 3, 10)
        self.cannot(two + "lamp 2 has 3 pushes 0 1 1 1 2 1", 3, 10)
        self.cannot(two + "lamp 2 has 3 pushes 0 4 1 2 3 1", 4, 1)
        self.assertEqual(((0, 0, 1), (0, 0, 1), (4, 2, 0)), read(two + "lamp 2 has 3 pushes 0 4 1 2")[0].pushes)
        self.cannot("lamp 0 has 1 pushes 1 1 2 1\nlamp 1 has 2 pushes 0 1\nlamp 2 has 3 pushes 0 1 1 1", 3, 8)
        self.cannot("lamp 0 has 1 pushes 1 1\nlamp 1 has 2 pushes 2 1", 2, 6)

    def test_lamps_without_a_line(self):
        self.cannot("lamp 0 has 1 pushes 1 1", 2, 1)
        self.cannot("lamp 0 has 1 pushes 7 1", 2, 1)
        self.cannot("lamp 0 has 1 pushes 7 1\nlamp 1 has 1", 3, 1)
        self.cannot("lamp 0 has 1 pushes 1 1 2 1\nlamp 1 has 2 pushes 0 1", 3, 1)
        seven = "\n".join([f"lamp {lamp} has 0 pushes 7 1" for lamp in range(7)])
        self.cannot(seven, 8, 1)
        pushes = " ".join(f"{lamp} 2" for lamp in range(7))
        self.assertEqual((2,) * 7 + (0,), read(seven + "\nlamp 7 has 0 pushes " + pushes)[0].pushes[7])
        # Lines that cannot stand are told ahead of it.
        self.cannot("lamp 0 has 1 pushes 7 1\nlamp 1 has", 2, 4)

    def test_the_last_lamp_pushes_no_greater_one(self):
        eight = [f"lamp {lamp} has 0" for lamp in range(8)]
        self.cannot("\n".join(eight[:7] + ["lamp 7 has 0 pushes 6 1"]), 8, 6)
        self.cannot("\n".join(eight[:7] + ["lamp 7 has 0 pushes 8 1"]), 8, 6)
        six = eight[:6] + ["lamp 6 has 0 pushes 7 1", "lamp 7 has 0 pushes 6 1"]
        self.assertEqual(1, read("\n".join(six))[0].pushes[7][6])
        self.cannot("\n".join(six) + " 7 1", 8, 8)

    def test_first_of_several_faults(self):
        self.cannot("lamp 0 had x pushes 9 9\nlamp 5", 1, 3)
        self.cannot("lamp 0 has 1\nLamp 1 has -0", 2, 1)
        self.cannot("lamp 0 has 01 pushes 0 0", 1, 4)

    def test_halls_are_new(self):
        hall, numbers = read(write(MIXED, (1,) * 6))
        again, _ = read(write(MIXED, (1,) * 6))
        self.assertEqual((hall, (1,) * 6), (again, numbers))
        self.assertEqual(NAMED["e", 8], read(write(NAMED["e", 8], (0,) * 8))[0])


if __name__ == "__main__":
    unittest.main()
