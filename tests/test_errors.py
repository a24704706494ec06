"""The errors of the interface."""

import unittest

from kaleidorooms import errors

FIELDS = {
    "BadPushes": ["index"], "Lopsided": ["one", "other"], "BadPlay": ["index"], "TooLong": ["most"],
    "TooMany": ["most"], "BadWord": ["index"], "BadArrows": ["index"], "BadLog": ["index"],
    "InvalidText": ["line", "word"], "BadJumps": ["index"],
}
PLAIN = """
    BadHall BadLamp BadLamps BadOrder BadWing BadNumbers NotBelow BadEnd BadMany BadRoom NotFlat BadHeight
    BadShift BadLevel NotShort BadIndex BadMove NotEnding BadArrow NotNearest BadRest BadTurn CannotFold NotFixed
    TooWide BadPrices BadFar BadNumber SameLamp BadTimes
""".split()


class Errors(unittest.TestCase):
    def test_base(self):
        self.assertEqual((ValueError,), errors.HallError.__bases__)

    def test_all_are_direct_subclasses(self):
        for name in PLAIN + list(FIELDS):
            with self.subTest(name):
                self.assertEqual((errors.HallError,), getattr(errors, name).__bases__)

    def test_there_are_no_others(self):
        found = {name for name in vars(errors) if not name.startswith("_")}
        self.assertEqual({"HallError"} | set(PLAIN) | set(FIELDS), found)

    def test_fields(self):
        for name, fields in FIELDS.items():
            values = list(range(3, 3 + len(fields)))
            with self.subTest(name):
                error = getattr(errors, name)(*values)
                self.assertEqual(dict(zip(fields, values)), vars(error))
                error = getattr(errors, name)(**dict(zip(fields, values)))
                self.assertEqual(values, [getattr(error, field) for field in fields])

    def test_plain_ones_have_no_fields(self):
        for name in PLAIN:
            with self.subTest(name):
                self.assertEqual({}, vars(getattr(errors, name)()))


if __name__ == "__main__":
    unittest.main()
