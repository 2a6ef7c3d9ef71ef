"""The examples of the document's interface, as they stand there, one session from first to last; those of README.md."""

import doctest
import os
import unittest

from latestshake.errors import ShakeError

HERE = os.path.dirname(os.path.abspath(__file__))
EXAMPLES = os.path.join(HERE, "examples.txt")
README = os.path.join(os.path.dirname(HERE), "README.md")
AHEAD = ">>> "


def examples():
    """Pairs of a line of code and what is told below it, None where nothing is."""
    with open(EXAMPLES, encoding="utf-8") as file:
        lines = file.read().splitlines()
    for index, line in enumerate(lines):
        if line.startswith(AHEAD):
            told = lines[index + 1] if index + 1 < len(lines) else AHEAD
            yield line[len(AHEAD):], None if told.startswith(AHEAD) else told


def answer(line, names):
    """What a line of code gives, as the document writes it."""
    try:
        value = eval(line, names)
    except ShakeError as error:
        told = ", ".join(f"{name}={value!r}" for name, value in vars(error).items())
        return f"raises {error.__class__.__name__}({told})"
    return repr(value)


class Examples(unittest.TestCase):
    def test_examples(self):
        names, many = {}, 0
        for line, told in examples():
            if told is None:
                exec(line, names)
            else:
                many += 1
                with self.subTest(line=line):
                    self.assertEqual(answer(line, names), told)
        self.assertEqual(many, 37)

    def test_readme(self):
        with open(README, encoding="utf-8") as file:
            text = file.read().replace("```", "")
        told = doctest.DocTestParser().get_doctest(text, {}, "README.md", README, 0)
        self.assertGreater(len(told.examples), 30)
        self.assertEqual(doctest.DocTestRunner(verbose=False).run(told).failed, 0)


if __name__ == "__main__":
    unittest.main()
