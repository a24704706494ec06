"""The examples of the document's interface, as they stand there."""

import re
import unittest
from importlib import import_module
from pathlib import Path

from kaleidorooms import errors

FOLDER = Path(__file__).parent / "examples"


def told(error):
    """An error as the document writes it."""
    fields = ", ".join(f"{name}={value!r}" for name, value in vars(error).items())
    return f"raises {error.__class__.__name__}({fields})"


def answer_of(source, names):
    """What an expression answers, or raises, as the document writes it."""
    try:
        return repr(eval(source, names))
    except errors.HallError as error:
        return told(error)


class Examples(unittest.TestCase):
    def run_block(self, block):
        names = {}
        lines = block.splitlines()
        tried = 0
        for at, line in enumerate(lines):
            if not line.startswith(">>> "):
                continue
            source = line[4:]
            if at + 1 == len(lines) or lines[at + 1].startswith(">>> "):
                exec(source, names)
            else:
                self.assertEqual(lines[at + 1], answer_of(source, names), source)
                tried += 1
        self.assertGreater(tried, 0, block)

    def test_examples(self):
        files = sorted(FOLDER.glob("*.txt"))
        self.assertEqual(33, len(files))
        for file in files:
            for block in file.read_text().split("\n\n"):
                with self.subTest(file.stem):
                    self.run_block(block)


    def test_all_is_defined_where_it_is_imported_from(self):
        many = 0
        for file in sorted(FOLDER.glob("*.txt")):
            for line in file.read_text().splitlines():
                told = re.fullmatch(r">>> from (kaleidorooms\.\w+) import (.*)", line)
                for name in told[2].split(", ") if told else ():
                    thing = getattr(import_module(told[1]), name)
                    self.assertEqual((told[1], name), (thing.__module__, thing.__name__))
                    many += told[1] == f"kaleidorooms.{file.stem}"
        self.assertGreater(many, 150)


if __name__ == "__main__":
    unittest.main()
