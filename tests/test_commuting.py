"""Points 47 and 48: changing places."""

import itertools
import math
import random
import unittest

from build import ANN, BOB, EVE, FILE, name, patch, random_rows, slow_needs, start
from quiltward.commuting import (after_swaps, count_orders, independent, inverse, order_with, parted, swapped,
                                 swaps_between)
from quiltward.patches import check_patch
from quiltward.sets import is_set, order_right, set_of, standing

ONE = start("x")
TWO = patch(BOB, ("lines", FILE, [(ANN, 1, 0)], [], ["b"]))
THREE = patch(EVE, ("cut", FILE, [(ANN, 1, 0)]))
FOUR = patch(name("eve", 2), ("back", EVE))
LONE = patch(name("dan", 1), ("add", ("z",)))


def ids_of(rows):
    return [row[1] for row in rows]


def random_order(rng, rows):
    """A random order of the set of some patches."""
    left, order = list(rows), []
    while left:
        ids = ids_of(left)
        row = rng.choice([row for row in left if not set(slow_needs(row)) & set(ids)])
        left.remove(row)
        order.append(row)
    return order


def needed(rows, one):
    """The ids that a patch needs, directly or through others."""
    table = {row[1]: slow_needs(row) for row in rows}
    found, left = set(), [one]
    while left:
        more = [other for other in table[left.pop()] if other not in found]
        found.update(more)
        left.extend(more)
    return found


class IndependentTest(unittest.TestCase):
    def test_independent(self):
        for one, other, want in [(ONE, TWO, False), (TWO, THREE, True), (ONE, THREE, False), (ONE, LONE, True),
                                 (THREE, FOUR, False), (ONE, FOUR, True), (TWO, FOUR, True), (ONE, ONE, True)]:
            self.assertIs(independent(one, other), want)
            self.assertIs(independent(other, one), want)


class SwapsTest(unittest.TestCase):
    def test_swapped(self):
        self.assertEqual(swapped([ONE, TWO, THREE], 1), [ONE, THREE, TWO])
        self.assertEqual(swapped([LONE, ONE, TWO], 0), [ONE, LONE, TWO])
        self.assertIsNone(swapped([ONE, TWO, THREE], 0))
        self.assertIsNone(swapped([ONE, THREE, FOUR], 1))

    def test_indexes_out_of_bounds(self):
        for at in [-3, -2, -1, 2, 3, 50]:
            self.assertIsNone(swapped([LONE, ONE, TWO], at))
            self.assertIsNone(after_swaps([LONE, ONE, TWO], [0, at]))
        for rows in [[], [ONE]]:
            for at in [-1, 0, 1]:
                self.assertIsNone(swapped(rows, at))

    def test_after_swaps(self):
        rows = [ONE, TWO, THREE, FOUR]
        self.assertEqual(after_swaps(rows, []), rows)
        self.assertIsNot(after_swaps(rows, []), rows)
        self.assertEqual(after_swaps(rows, [1, 2]), [ONE, THREE, FOUR, TWO])
        self.assertEqual(after_swaps(rows, [1, 1]), rows)
        self.assertIsNone(after_swaps(rows, [1, 0]))
        self.assertIsNone(after_swaps(rows, [2, 1]))
        self.assertIsNone(after_swaps([], [0]))

    def test_swaps_between(self):
        self.assertEqual(swaps_between([], []), [])
        self.assertEqual(swaps_between([ONE, TWO, THREE], [ONE, TWO, THREE]), [])
        self.assertEqual(swaps_between([ONE, TWO, THREE, FOUR], [ONE, THREE, FOUR, TWO]), [1, 2])
        self.assertEqual(swaps_between([ONE, TWO, LONE], [LONE, ONE, TWO]), [1, 0])
        self.assertEqual(swaps_between([LONE, ONE, TWO], [ONE, TWO, LONE]), [0, 1])

    def test_orders_that_are_far_apart(self):
        rows = [patch(name("ann", k), ("add", ("f",))) for k in range(1, 41)]
        swaps = swaps_between(rows, rows[::-1])
        self.assertEqual(len(swaps), 780)
        self.assertEqual(swaps[:40], list(range(38, -1, -1)) + [38])
        self.assertEqual(after_swaps(rows, swaps), rows[::-1])

    def test_random_orders(self):
        for seed in range(40):
            rng = random.Random(seed)
            rows = random_rows(seed, 12)
            one, other = random_order(rng, rows), random_order(rng, rows)
            swaps, row = swaps_between(one, other), list(one)
            # Each place gets its patch, from the first one on, step by step.
            want = []
            for place, two in enumerate(other):
                while row[place] != two:
                    at = row.index(two) - 1
                    self.assertNotIn(row[at][1], slow_needs(row[at + 1]))
                    row = swapped(row, at)
                    want.append(at)
            self.assertEqual((swaps, row), (want, other))
            self.assertEqual(after_swaps(one, swaps), other)
            self.assertTrue(order_right(set_of(rows), ids_of(other)))


class OrdersTest(unittest.TestCase):
    def test_count_orders(self):
        self.assertEqual(count_orders({}), 1)
        self.assertEqual(count_orders(set_of([ONE])), 1)
        self.assertEqual(count_orders(set_of([ONE, TWO, THREE])), 2)
        self.assertEqual(count_orders(set_of([ONE, TWO, THREE, FOUR])), 3)
        self.assertEqual(count_orders(set_of([ONE, TWO, THREE, FOUR, LONE])), 15)

    def test_a_row(self):
        rows = [ONE]
        for k in range(2, 11):
            rows.append(patch(name("ann", k), ("back", rows[-1][1])))
            self.assertEqual(count_orders(set_of(rows)), 1)

    def test_patches_that_need_nothing(self):
        rows = [patch(name("ann", k), ("add", ("f",))) for k in range(1, 13)]
        for many in range(13):
            self.assertEqual(count_orders(set_of(rows[:many])), math.factorial(many))

    def test_random_sets(self):
        for seed in range(25):
            rows = random_rows(seed, 6)
            orders = [row for row in itertools.permutations(ids_of(rows)) if order_right(set_of(rows), list(row))]
            self.assertEqual(count_orders(set_of(rows)), len(orders))


class InverseTest(unittest.TestCase):
    def test_an_inverse(self):
        back = inverse(TWO, EVE, "undo")
        self.assertEqual(back, ("patch", EVE, [("back", BOB)], "undo"))
        check_patch(back)
        patches = set_of([ONE, TWO, back])
        self.assertEqual(standing(patches), {ANN: True, EVE: True})

    def test_the_inverse_of_an_inverse(self):
        back = inverse(TWO, EVE, "")
        again = inverse(back, name("eve", 2), "~")
        self.assertEqual(again, ("patch", name("eve", 2), [("back", EVE)], "~"))
        patches = set_of([ONE, TWO, back, again])
        self.assertEqual(standing(patches), {ANN: True, BOB: True, name("eve", 2): True})
        self.assertFalse(independent(back, again))
        self.assertTrue(independent(TWO, again))


class PartedTest(unittest.TestCase):
    def test_parted(self):
        patches = set_of([ONE, TWO, THREE, FOUR, LONE])
        dan, four = name("dan", 1), name("eve", 2)
        self.assertEqual(parted(patches, ANN), ([], [dan], [BOB, EVE, four]))
        self.assertEqual(parted(patches, BOB), ([ANN], [dan, EVE, four], []))
        self.assertEqual(parted(patches, EVE), ([ANN], [BOB, dan], [four]))
        self.assertEqual(parted(patches, four), ([ANN, EVE], [BOB, dan], []))
        self.assertEqual(parted(patches, dan), ([], [ANN, BOB, EVE, four], []))

    def test_random_sets(self):
        for seed in range(40):
            rows = random_rows(seed, 12)
            patches = set_of(rows)
            for one in patches:
                front = needed(rows, one)
                behind = {other for other in patches if one in needed(rows, other)}
                told = parted(patches, one)
                self.assertIsInstance(told, tuple)
                self.assertEqual(told, (sorted(front), sorted(set(patches) - front - behind - {one}), sorted(behind)))
                order = order_with(patches, one)
                self.assertTrue(order_right(patches, order))
                self.assertEqual(set(order[:order.index(one)]), front)

    def test_a_patch_stands_before_exactly_those_that_it_does_not_need(self):
        rows = random_rows(7, 6)
        patches = set_of(rows)
        orders = [row for row in itertools.permutations(patches) if order_right(patches, list(row))]
        for one, other in itertools.permutations(patches, 2):
            can = any(row.index(one) < row.index(other) for row in orders)
            self.assertIs(can, other not in needed(rows, one))

    def test_any_order_of_a_set_is_a_set(self):
        rows = random_rows(3, 8)
        for one in ids_of(rows):
            order = order_with(set_of(rows), one)
            self.assertTrue(is_set(set_of([set_of(rows)[other] for other in order])))


if __name__ == "__main__":
    unittest.main()
