"""The examples of the document's interface, as they stand there."""

import unittest
from pathlib import Path

from kaleidorooms import errors

FOLDER = Path(__file__).parent / "examples"


def told(error):
    """An error as the document writes it."""
    fields = ", ".join(f"{name}={value!r}" for name, value in vars(error).items())
    return f"raises {error.__class__.__name__}({fields})"


def answer_of(source, names):
    """What an expression answers, or raises, as the document writes it."""
    try:
        return repr(eval(source, names))
    except errors.HallError as error:
        return told(error)


class Examples(unittest.TestCase):
    def run_block(self, block):
        names = {}
        lines = block.splitlines()
        tried = 0
        for at, line in enumerate(lines):
            if not line.startswith(">>> "):
                continue
            source = line[4:]
            if at + 1 == len(lines) or lines[at + 1].startswith(">>> "):
                exec(source, names)
            else:
                self.assertEqual(lines[at + 1], answer_of(source, names), source)
                tried += 1
        self.assertGreater(tried, 0, block)

    def test_examples(self):
        files = sorted(FOLDER.glob("*.txt"))
        self.assertEqual(27, len(files))
        for file in files:
            for block in file.read_text().split("\n\n"):
                with self.subTest(file.stem):
                    self.run_block(block)


if __name__ == "__main__":
    unittest.main()
