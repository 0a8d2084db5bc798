"""Point 10: texts."""

import random
import unittest

from quiltward.errors import TextError
from quiltward.texts import joined, lines_of


def slow_fault(text):
    """The least index at which a text fails, or None."""
    faults, line, many = [], 0, 0
    for at, sign in enumerate(text):
        if many >= 200:
            faults.append(at)
        if sign == "\n":
            line, many = 0, many + 1
            continue
        line += 1
        if line == 41 or not " " <= sign <= "~":
            faults.append(at)
    if text and text[-1] != "\n":
        faults.append(len(text))
    return min(faults, default=None)


class TextsTest(unittest.TestCase):
    def wrong(self, text, at):
        with self.assertRaises(TextError) as caught:
            lines_of(text)
        self.assertEqual(caught.exception.at, at)
        self.assertEqual(slow_fault(text), at)

    def test_texts(self):
        for text, lines in [("", []), ("\n", [""]), ("a\n", ["a"]), ("a\nb c\n", ["a", "b c"]), ("\n\n", ["", ""]),
                            (" \n", [" "]), ("a\n\n~\n", ["a", "", "~"]), ("x" * 40 + "\n", ["x" * 40])]:
            self.assertEqual(lines_of(text), lines)
            self.assertEqual(joined(lines), text)

    def test_no_newline_at_the_end(self):
        self.wrong("a", 1)
        self.wrong("a\nbc", 4)
        self.wrong("\n\n ", 3)
        self.wrong("x" * 40, 40)
        self.wrong("x\n" * 199 + "x", 399)

    def test_long_lines(self):
        self.wrong("x" * 41 + "\n", 40)
        self.wrong("x" * 41, 40)
        self.wrong("x" * 90 + "\n", 40)
        self.wrong("a\n" + "x" * 41 + "\n", 42)
        self.assertEqual(lines_of(("x" * 40 + "\n") * 200), ["x" * 40] * 200)

    def test_many_lines(self):
        self.assertEqual(lines_of("\n" * 200), [""] * 200)
        self.wrong("\n" * 201, 200)
        self.wrong("ab\n" * 201, 600)
        self.wrong("\n" * 200 + "a", 200)
        self.wrong("\n" * 300, 200)

    def test_several_faults(self):
        self.wrong("\n" * 200 + "x" * 41, 200)
        self.wrong("x" * 41 + "\n" * 300, 40)
        self.wrong("\n" * 199 + "x" * 45 + "\nx", 239)
        self.wrong("x" * 50 + "\n" + "y" * 50, 40)

    def test_other_signs(self):
        self.wrong("a\tb\n", 1)
        self.wrong("\x7f\n", 0)
        self.wrong("a\r\n", 1)
        self.wrong("x" * 40 + "\t\n", 40)

    def test_random_texts(self):
        found = 0
        for seed in range(150):
            rng = random.Random(seed)
            text = "".join(rng.choice(["x" * rng.randint(0, 41), "y"]) + "\n" for _ in range(rng.randint(0, 202)))
            text += rng.choice(["", "", "z", "z" * 41])
            at = slow_fault(text)
            if at is None:
                found += 1
                self.assertEqual(joined(lines_of(text)), text)
            else:
                self.wrong(text, at)
        self.assertTrue(5 < found < 100, found)

    def test_joined(self):
        self.assertEqual(joined([]), "")
        self.assertEqual(joined(["", "a"]), "\na\n")


if __name__ == "__main__":
    unittest.main()
