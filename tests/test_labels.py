"""Point 70: labels."""

import itertools
import unittest

from build import label
from quiltward.labels import PUBLIC, common, is_below, joined, label_key, sorted_labels

MARKS = [marks for many in range(4) for marks in itertools.combinations(range(6), many)]
LABELS = [("label", level, marks) for level in (0, 1, 4, 7) for marks in MARKS[:20]] + [label(7, 0, 1, 2, 3, 4, 5)]


class LabelsTest(unittest.TestCase):
    def test_public(self):
        self.assertEqual(PUBLIC, ("label", 0, ()))

    def test_below(self):
        self.assertTrue(is_below(label(1, 2), label(3, 0, 2)))
        self.assertTrue(is_below(label(3, 2), label(3, 2)))
        self.assertFalse(is_below(label(4, 2), label(3, 0, 2)))
        self.assertFalse(is_below(label(1, 1), label(3, 0, 2)))
        self.assertFalse(is_below(label(0, 1), label(7)))
        self.assertTrue(is_below(PUBLIC, label(0, 5)))

    def test_below_by_marks_and_levels(self):
        for one, other in itertools.product(LABELS, LABELS):
            told = one[1] <= other[1] and set(one[2]) <= set(other[2])
            self.assertIs(is_below(one, other), told)

    def test_order(self):
        row = [label(2), label(0, 5), label(2, 0, 1), label(0, 1, 2), label(2), PUBLIC, label(0, 2), label(1)]
        want = [PUBLIC, label(0, 1, 2), label(0, 2), label(0, 5), label(1), label(2), label(2, 0, 1)]
        before = list(row)
        self.assertEqual(sorted_labels(row), want)
        self.assertEqual(row, before)
        self.assertEqual(sorted_labels([]), [])
        self.assertEqual(label_key(label(3, 0, 2)), (3, (0, 2)))
        self.assertEqual(sorted(LABELS, key=label_key), sorted_labels(LABELS))

    def test_joined_is_the_lowest_above_and_common_the_highest_below(self):
        self.assertEqual(joined(label(1, 0, 3), label(2, 1)), label(2, 0, 1, 3))
        self.assertEqual(common(label(1, 0, 3), label(2, 1, 3)), label(1, 3))
        self.assertEqual(common(label(5, 0), label(2, 1)), label(2))
        for one, other in itertools.product(LABELS[::3], LABELS[::2]):
            top, low = joined(one, other), common(one, other)
            for each in (one, other):
                self.assertTrue(is_below(each, top) and is_below(low, each))
            for third in LABELS[::5]:
                if is_below(one, third) and is_below(other, third):
                    self.assertTrue(is_below(top, third))
                if is_below(third, one) and is_below(third, other):
                    self.assertTrue(is_below(third, low))
            self.assertEqual(joined(other, one), top)
            self.assertEqual(common(other, one), low)


if __name__ == "__main__":
    unittest.main()
