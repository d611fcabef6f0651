"""The examples of the document, as they stand in it: each answer compared with what is written below its line."""
import os
import unittest

PLACE = os.path.join(os.path.dirname(os.path.abspath(__file__)), "examples.txt")


def lines_of(place):
    with open(place, encoding="ascii") as file:
        return [line for line in file.read().splitlines() if line and not line.startswith("#")]


def shown(error):
    told = ", ".join(f"{name}={worth!r}" for name, worth in vars(error).items())
    return f"raises {error.__class__.__name__}({told})"


def answer(source, names):
    try:
        return repr(eval(source, names))
    except ValueError as error:
        return shown(error)


class Examples(unittest.TestCase):
    def test_all(self):
        names = {}
        compared = 0
        lines = lines_of(PLACE)
        for line, following in zip(lines, lines[1:] + [">>> "]):
            if not line.startswith(">>> "):
                continue
            if following.startswith(">>> "):
                exec(line[4:], names)
                continue
            compared += 1
            with self.subTest(line=line):
                self.assertEqual(answer(line[4:], names), following)
        self.assertGreaterEqual(compared, 10)


if __name__ == "__main__":
    unittest.main()
