"""Points 20 and 21: scripts and levels."""

import functools
import itertools
import random
import unittest

from quiltward.scripts import fewest, kept, levels, levels_right, script_right, steps_between


def slow_kept(one, other):
    """How many lines can be kept, by trying."""
    @functools.lru_cache(None)
    def most(i, j):
        if i == len(one) or j == len(other):
            return 0
        both = 1 + most(i + 1, j + 1) if one[i] == other[j] else 0
        return max(both, most(i + 1, j), most(i, j + 1))
    return most(0, 0)


def slow_steps(one, other, i=0, j=0):
    """The script, step by step as point 20 tells it."""
    if i == len(one) and j == len(other):
        return []
    if i < len(one) and j < len(other) and one[i] == other[j]:
        return [("keep", i, j)] + slow_steps(one, other, i + 1, j + 1)
    if i < len(one) and slow_kept(one[i + 1:], other[j:]) == slow_kept(one[i:], other[j:]):
        return [("cut", i)] + slow_steps(one, other, i + 1, j)
    return [("put", j)] + slow_steps(one, other, i, j + 1)


def slow_levels(one, other):
    pairs = [(i, j) for i, j in itertools.product(range(len(one)), range(len(other))) if one[i] == other[j]]
    return [[(i, j) for i, j in pairs if slow_kept(one[:i], other[:j]) == k] for k in range(slow_kept(one, other))]


def slow_levels_right(one, other, rows):
    pairs = [(i, j) for i, j in itertools.product(range(len(one)), range(len(other))) if one[i] == other[j]]
    if sorted(pair for row in rows for pair in row) != pairs:
        return False
    return not any(a[0] < b[0] and a[1] < b[1] for row in rows for a in row for b in row)


def lists(seed):
    rng = random.Random(seed)
    signs = rng.choice(["ab", "abc", "abcdefgh"])
    one = [rng.choice(signs) if rng.random() < 0.85 else None for _ in range(rng.randint(0, 7))]
    return one, [rng.choice(signs) for _ in range(rng.randint(0, 7))]


class StepsTest(unittest.TestCase):
    def test_empty_lists(self):
        self.assertEqual(steps_between([], []), [])
        self.assertEqual(steps_between(["a", "b"], []), [("cut", 0), ("cut", 1)])
        self.assertEqual(steps_between([], ["a", "b"]), [("put", 0), ("put", 1)])
        self.assertEqual(steps_between([""], [""]), [("keep", 0, 0)])

    def test_no_line_is_kept(self):
        self.assertEqual(steps_between(["a", "b"], ["c", "d"]), [("cut", 0), ("cut", 1), ("put", 0), ("put", 1)])

    def test_none_equals_no_line(self):
        self.assertEqual(steps_between([None], ["a"]), [("cut", 0), ("put", 0)])
        self.assertEqual(steps_between(["a", None, "b", None], ["a", "b"]),
                         [("keep", 0, 0), ("cut", 1), ("keep", 2, 1), ("cut", 3)])
        self.assertEqual(steps_between([None, None], []), [("cut", 0), ("cut", 1)])

    def test_equal_lines_several_times(self):
        self.assertEqual(steps_between(["a", "a", "a"], ["a", "a"]), [("keep", 0, 0), ("keep", 1, 1), ("cut", 2)])
        self.assertEqual(steps_between(["a"], ["a", "a"]), [("keep", 0, 0), ("put", 1)])
        self.assertEqual(steps_between(["a", "b", "a"], ["b", "a", "b"]),
                         [("cut", 0), ("keep", 1, 0), ("keep", 2, 1), ("put", 2)])

    def test_which_of_several_scripts(self):
        # Both ways keep one line: the next line of the first list is cut.
        self.assertEqual(steps_between(["a", "b"], ["b", "a"]), [("cut", 0), ("keep", 1, 0), ("put", 1)])
        # Cutting would keep less: the next line of the second list is put.
        self.assertEqual(steps_between(["a"], ["b", "a"]), [("put", 0), ("keep", 0, 1)])
        self.assertEqual(steps_between(["a", "b"], ["c", "a", "b"]), [("put", 0), ("keep", 0, 1), ("keep", 1, 2)])
        self.assertEqual(steps_between(["x", "a"], ["y", "a"]), [("cut", 0), ("put", 0), ("keep", 1, 1)])

    def test_short_lists(self):
        words = [list(word) for many in range(5) for word in itertools.product("ab", repeat=many)]
        for one, other in itertools.product(words, words):
            self.assertEqual(steps_between(one, other), slow_steps(one, other))

    def test_random_lists(self):
        for seed in range(200):
            one, other = lists(seed)
            steps = steps_between(one, other)
            self.assertEqual(steps, slow_steps(one, other))
            self.assertIs(script_right(one, other, steps), True)
            self.assertEqual(kept(steps), slow_kept(one, other))

    def test_long_lists(self):
        rng = random.Random(1)
        one, other = [rng.choice("abcd") for _ in range(900)], [rng.choice("abcd") for _ in range(200)]
        steps = steps_between(one, other)
        self.assertTrue(script_right(one, other, steps))
        self.assertTrue(fewest(one, other, steps, levels(one, other)))


class ScriptRightTest(unittest.TestCase):
    def test_other_scripts_are_right_too(self):
        for steps in [[("cut", 0), ("put", 0)], [("put", 0), ("cut", 0)], [("keep", 0, 0)]]:
            self.assertIs(script_right(["a"], ["a"], steps), True)
        self.assertIs(script_right([], [], []), True)
        self.assertIs(script_right(["a", None], ["b"], [("cut", 0), ("put", 0), ("cut", 1)]), True)

    def test_lines_that_are_not_equal(self):
        self.assertIs(script_right(["a"], ["b"], [("keep", 0, 0)]), False)
        self.assertIs(script_right([None], ["a"], [("keep", 0, 0)]), False)

    def test_out_of_bounds(self):
        for steps in [[("cut", 0)], [("put", 0)], [("keep", 0, 0)], [("cut", -1)], [("put", -1)]]:
            self.assertIs(script_right([], [], steps), False)
        right = [("keep", 0, 0), ("cut", 1)]
        for more in [("cut", 2), ("put", 1), ("keep", 2, 1), ("cut", 0), ("put", 0), ("keep", -1, -1), ("cut", 1)]:
            self.assertIs(script_right(["a", "b"], ["a"], right + [more]), False)
        self.assertIs(script_right(["a", "a"], ["a", "a"], [("keep", 0, 0), ("keep", -1, -1)]), False)

    def test_keeping_behind_the_end_of_one_list(self):
        self.assertIs(script_right(["a"], ["a"], [("cut", 0), ("keep", 1, 0)]), False)
        self.assertIs(script_right(["a"], ["a"], [("put", 0), ("keep", 0, 1)]), False)
        self.assertIs(script_right([], ["a"], [("keep", 0, 0)]), False)
        self.assertIs(script_right(["a"], [], [("keep", 0, 0)]), False)

    def test_out_of_order(self):
        self.assertIs(script_right(["a", "b"], [], [("cut", 1), ("cut", 0)]), False)
        self.assertIs(script_right([], ["a", "b"], [("put", 1), ("put", 0)]), False)
        self.assertIs(script_right(["a", "b"], ["b", "a"], [("keep", 0, 1), ("keep", 1, 0)]), False)
        self.assertIs(script_right(["a", "b"], ["a", "b"], [("keep", 1, 1), ("keep", 0, 0)]), False)
        self.assertIs(script_right(["a", "a"], ["a"], [("keep", 1, 0), ("cut", 0)]), False)

    def test_steps_left_out_doubled_or_exchanged(self):
        for seed in range(80):
            one, other = lists(seed)
            steps = steps_between(one, other)
            for at in range(len(steps)):
                self.assertIs(script_right(one, other, steps[:at] + steps[at + 1:]), False)
                self.assertIs(script_right(one, other, steps[:at + 1] + steps[at:]), False)
                self.assertIs(script_right(one, other, steps[:at] + [("keep", *steps[at][1:2], 99)] + steps[at + 1:]), False)
            for at in range(len(steps) - 1):
                words = {steps[at][0], steps[at + 1][0]}
                changed = steps[:at] + [steps[at + 1], steps[at]] + steps[at + 2:]
                self.assertIs(script_right(one, other, changed), words == {"cut", "put"})

    def test_kept(self):
        self.assertEqual(kept([]), 0)
        self.assertEqual(kept([("cut", 0), ("put", 0)]), 0)
        self.assertEqual(kept([("keep", 0, 0), ("cut", 1), ("keep", 5, 7)]), 2)


class LevelsTest(unittest.TestCase):
    def test_levels(self):
        self.assertEqual(levels([], []), [])
        self.assertEqual(levels(["a"], ["b"]), [])
        self.assertEqual(levels([None], ["a"]), [])
        self.assertEqual(levels(["a"], ["a"]), [[(0, 0)]])
        self.assertEqual(levels(["a", "a"], ["a", "a"]), [[(0, 0), (0, 1), (1, 0)], [(1, 1)]])
        self.assertEqual(levels(["a", "b"], ["b", "a"]), [[(0, 1), (1, 0)]])

    def test_random_levels(self):
        for seed in range(200):
            one, other = lists(seed)
            rows = levels(one, other)
            self.assertEqual(rows, slow_levels(one, other))
            self.assertIs(levels_right(one, other, rows), True)
            self.assertIs(fewest(one, other, steps_between(one, other), rows), True)

    def test_other_levels_that_are_right(self):
        one, other = ["a", "a"], ["a", "a"]
        for rows in [[[(1, 0), (0, 0), (0, 1)], [(1, 1)]], [[(1, 1), (0, 1)], [(0, 0), (1, 0)]],
                     [[(0, 0)], [(0, 1)], [(1, 0)], [(1, 1)]], [[], [(0, 1), (1, 0), (0, 0)], [], [(1, 1)]]]:
            self.assertIs(levels_right(one, other, rows), True)
        self.assertIs(levels_right([], [], [[], []]), True)

    def test_levels_that_are_not_right(self):
        one, other = ["a", "a"], ["a", "a"]
        for rows in [[], [[]], [[(0, 0), (1, 1)], [(0, 1), (1, 0)]], [[(0, 0), (0, 1), (1, 0)]],
                     [[(1, 1), (0, 0), (0, 1)], [(1, 0)]], [[(0, 0), (0, 1), (1, 0)], [(1, 1), (1, 1)]],
                     [[(0, 0), (0, 1), (1, 0)], [(1, 1)], [(0, 0)]], [[(0, 0), (0, 1), (1, 0)], [(1, 2)]],
                     [[(0, 0), (0, 1), (1, 0)], [(1, 1), (-1, -1)]], [[(0, 0), (0, 1), (1, 0)], [(1, 1)], [(2, 2)]],
                     [[(0, 0), (0, 1), (1, 0), (1, 1)]]]:
            self.assertIs(levels_right(one, other, rows), False, rows)
        self.assertIs(levels_right(["a"], ["b"], [[(0, 0)]]), False)
        self.assertIs(levels_right([None], ["a"], [[(0, 0)]]), False)

    def test_pairs_left_out_doubled_or_brought_elsewhere(self):
        for seed in range(60):
            one, other = lists(seed)
            rows = levels(one, other)
            for k, row in enumerate(rows):
                for at, pair in enumerate(row):
                    without = rows[:k] + [row[:at] + row[at + 1:]] + rows[k + 1:]
                    self.assertIs(levels_right(one, other, without), False)
                    self.assertIs(levels_right(one, other, rows + [[pair]]), False)
                    self.assertIs(levels_right(one, other, without + [[pair]]), True)
                    for to in range(len(without)):
                        moved = without[:to] + [without[to] + [pair]] + without[to + 1:]
                        self.assertIs(levels_right(one, other, moved), slow_levels_right(one, other, moved))


class FewestTest(unittest.TestCase):
    one, other = ["a", "b", "c"], ["b", "x", "c", "b"]

    def test_fewest(self):
        steps, rows = steps_between(self.one, self.other), levels(self.one, self.other)
        self.assertIs(fewest(self.one, self.other, steps, rows), True)
        self.assertIs(fewest([], [], [], []), True)
        late = [("put", 0), ("put", 1), ("put", 2), ("cut", 0), ("keep", 1, 3), ("cut", 2)]
        self.assertIs(script_right(self.one, self.other, late), True)
        self.assertIs(fewest(self.one, self.other, late, rows), False)
        more = [[pair] for row in rows for pair in row]
        self.assertIs(levels_right(self.one, self.other, more), True)
        self.assertIs(fewest(self.one, self.other, steps, more), False)

    def test_steps_that_are_no_script(self):
        steps, rows = steps_between(self.one, self.other), levels(self.one, self.other)
        for wrong in [steps[:-1], steps + steps[-1:], steps[::-1], [("keep", 0, 0), ("keep", 1, 1)], []]:
            self.assertIs(fewest(self.one, self.other, wrong, rows), False)

    def test_levels_that_are_not_right(self):
        steps, rows = steps_between(self.one, self.other), levels(self.one, self.other)
        for wrong in [rows[:1] + [[]], [[(1, 0), (2, 2)], [(1, 3)]], [[(1, 0), (1, 3)], [(2, 2), (2, 2)]],
                      [[(1, 0), (1, 3)], [(2, 2), (0, 0)]], [[], []]]:
            self.assertIs(fewest(self.one, self.other, steps, wrong), False)


if __name__ == "__main__":
    unittest.main()
