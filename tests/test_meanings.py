"""Points 170, 171 and 172: texts that mean trees."""

import random
import unittest

from quiltward.errors import TextError
from quiltward.meanings import lines_of_tree, merged_lines, merged_trees, tree_of

NAMES = ["a", "b", "c", "d9"]


def deep(many):
    """Lines of so many trees, each in the one before it."""
    return ["  " * k + "a" for k in range(many)]


def random_tree(rng, depth=0):
    """A random tree."""
    tree = {}
    for name in rng.sample(NAMES, rng.randint(0, 3)):
        tree[name] = random_tree(rng, depth + 1) if rng.random() < 0.5 and depth < 4 else rng.choice(["1", "2", "x = y"])
    return tree


def changed(rng, tree):
    """A tree with some changes."""
    tree = {name: changed(rng, value) if isinstance(value, dict) else value for name, value in tree.items()}
    for name in rng.sample(NAMES, rng.choice([0, 0, 1, 1, 2])):
        if rng.random() < 0.3:
            tree.pop(name, None)
        else:
            tree[name] = rng.choice(["1", "2", "3", {}, {"a": "1"}, {"b": {"a": "2"}}])
    return tree


def shuffled(rng, tree, depth=0):
    """Lines that mean a tree, in a random order."""
    lines = []
    for name in rng.sample(sorted(tree), len(tree)):
        if isinstance(tree[name], dict):
            lines += ["  " * depth + name] + shuffled(rng, tree[name], depth + 1)
        else:
            lines.append("  " * depth + name + " = " + tree[name])
    return lines


class TreeTest(unittest.TestCase):
    def wrong(self, lines, at):
        with self.assertRaises(TextError) as caught:
            tree_of(lines)
        self.assertEqual(caught.exception.at, at, lines)

    def test_trees(self):
        for lines, want in [([], {}), (["a"], {"a": {}}), (["a = 1"], {"a": "1"}), (["b", "a"], {"a": {}, "b": {}}),
                            (["a", "  b = 1", "  c", "    d = 2", "  e = 3", "f"],
                             {"a": {"b": "1", "c": {"d": "2"}, "e": "3"}, "f": {}}),
                            (["a", "  a", "    a = a", "b", "  a"], {"a": {"a": {"a": "a"}}, "b": {"a": {}}}),
                            (["a", "  b", "    c = 1", "d = 2"], {"a": {"b": {"c": "1"}}, "d": "2"}),
                            (["12345678 = 0", "z"], {"12345678": "0", "z": {}})]:
            self.assertEqual(tree_of(lines), want)

    def test_values(self):
        for value in ["1", "a b", "a  b", "=", "= =", " = ".strip(), "a = b", "x = y = z", "~", "40" * 30, "A!"]:
            self.assertEqual(tree_of(["n = " + value]), {"n": value})
        self.assertEqual(tree_of(["a = = b"]), {"a": "= b"})
        for line in ["n = ", "n =  x", "n = x ", "n =  ", "n = x  ", "n =", "n=x", "n= x", "n =x", "n ", "n  = x", " = x"]:
            self.wrong([line], 0)

    def test_names(self):
        for name in ["", "123456789", "A", "a-b", "a.b", "a b", "a_", "=", "a\t"]:
            self.wrong([name], 0)
            self.wrong(["a", name + " = 1"], 1)
        self.wrong(["a", "  "], 1)
        self.wrong(["a", "", "b"], 1)

    def test_names_that_are_there_already(self):
        for lines, at in [(["a", "a"], 1), (["a = 1", "a = 1"], 1), (["a", "b", "a = 2"], 2), (["a = 2", "b", "a"], 2),
                          (["a", "  b", "  c", "  b = 1"], 3), (["a", "  b", "    c", "a"], 3)]:
            self.wrong(lines, at)
        self.assertEqual(tree_of(["a", "  b", "b", "  b", "    b = 1"]), {"a": {"b": {}}, "b": {"b": {"b": "1"}}})

    def test_depths(self):
        # More than one deeper than a tree; deeper than a value; deeper at the beginning; not a whole depth.
        for lines, at in [(["a", "    b"], 1), (["a", "  b", "      c"], 2), (["a = 1", "  b"], 1), (["a = 1", "    b"], 1),
                          (["a", "  b = 1", "    c"], 2), (["  a"], 0), (["    a = 1"], 0), ([" a"], 0), (["a", " b"], 1),
                          (["a", "   b"], 1), (["a", "  b", "c", "    d"], 3), (["a", "  b", "c = 1", "  d"], 3)]:
            self.wrong(lines, at)
        self.assertEqual(tree_of(["a", "  b = 1", "  c"]), {"a": {"b": "1", "c": {}}})

    def test_the_greatest_depth(self):
        self.assertEqual(lines_of_tree(tree_of(deep(9)), 0), deep(9))
        self.assertEqual(tree_of(deep(8) + ["  " * 8 + "a = 1"]), tree_of(deep(8) + ["  " * 8 + "a = 1"]))
        self.wrong(deep(10), 9)
        self.wrong(deep(9) + ["  " * 9 + "b = 1"], 9)
        self.wrong(deep(9) + ["  " * 8 + "b", "  " * 9 + "c", "?"], 10)

    def test_the_first_wrong_line(self):
        self.wrong(["a", "?", "a", "?"], 1)
        self.wrong(["a", "b", "b", "?"], 2)

    def test_tabs_are_no_spaces(self):
        self.wrong(["a", "\tb"], 1)
        self.wrong(["a", " \tb"], 1)


class LinesTest(unittest.TestCase):
    def test_lines(self):
        tree = {"b": {"z": "1", "a": {}}, "a": "x", "c": {}}
        self.assertEqual(lines_of_tree(tree, 0), ["a = x", "b", "  a", "  z = 1", "c"])
        self.assertEqual(lines_of_tree(tree, 2), ["    a = x", "    b", "      a", "      z = 1", "    c"])
        self.assertEqual(lines_of_tree({}, 3), [])

    def test_lines_mean_their_tree(self):
        for seed in range(60):
            rng = random.Random(seed)
            tree = random_tree(rng)
            lines = lines_of_tree(tree, 0)
            self.assertEqual(tree_of(lines), tree)
            other = shuffled(rng, tree)
            self.assertEqual(lines_of_tree(tree_of(other), 0), lines)
            names = [line.split(" ")[0] for line in lines if not line.startswith(" ")]
            self.assertEqual(names, sorted(tree))


def slow_merge(base, one, other):
    """A merge by the ways of all values and trees, or the list of the ways where it clashes."""
    tree, clashes = {}, []
    for name in sorted(set(one) | set(other)):
        was, mine, theirs = [row.get(name) for row in (base, one, other)]
        if all(isinstance(row, dict) for row in (mine, theirs)) and mine != theirs and was not in (mine, theirs):
            inner, ways = slow_merge(was if isinstance(was, dict) else {}, mine, theirs)
            clashes += [(name,) + way for way in ways]
        elif mine == theirs or was in (mine, theirs):
            inner = mine if mine == theirs or theirs == was else theirs
        else:
            clashes.append((name,))
            continue
        if inner is not None:
            tree[name] = inner
    return tree, clashes


class MergeTest(unittest.TestCase):
    def merge(self, base, one, other):
        told = merged_trees(base, one, other)
        self.assertEqual(merged_trees(base, other, one), told)
        return told

    def test_one_side(self):
        base = {"a": "1", "b": {"c": "2"}}
        for one in [base, {}, {"a": "2"}, {"a": {}, "b": "3"}, {"a": "1", "b": {}}, {"a": "1", "b": {"c": "2", "d": {}}}]:
            self.assertEqual(self.merge(base, one, base), ("tree", one))

    def test_both_changed_the_same(self):
        for one in [{"a": "2"}, {}, {"a": {"x": {}}}, {"a": "1", "b": "2"}]:
            self.assertEqual(self.merge({"a": "1"}, one, one), ("tree", one))

    def test_both_sides(self):
        base = {"a": "1", "b": "1", "c": {"x": "1", "y": "1"}}
        one = {"a": "2", "b": "1", "c": {"x": "2", "y": "1"}, "d": "1"}
        other = {"a": "1", "c": {"x": "1", "z": "1"}, "e": {}}
        self.assertEqual(self.merge(base, one, other), ("tree", {"a": "2", "c": {"x": "2", "z": "1"}, "d": "1", "e": {}}))

    def test_a_name_that_one_lacks(self):
        self.assertEqual(self.merge({"a": "1"}, {}, {"a": "1"}), ("tree", {}))
        self.assertEqual(self.merge({"a": "1"}, {}, {"a": "2"}), ("clash", [("a",)]))
        self.assertEqual(self.merge({}, {}, {"a": "1"}), ("tree", {"a": "1"}))
        self.assertEqual(self.merge({"a": {"b": "1"}}, {}, {"a": {"b": "1"}}), ("tree", {}))
        self.assertEqual(self.merge({"a": {"b": "1"}}, {}, {"a": {"b": "2"}}), ("clash", [("a",)]))
        self.assertEqual(self.merge({"a": {"b": "1"}}, {}, {"a": {}}), ("clash", [("a",)]))

    def test_values_that_become_trees(self):
        self.assertEqual(self.merge({"a": "1"}, {"a": {"b": "1"}}, {"a": "1"}), ("tree", {"a": {"b": "1"}}))
        self.assertEqual(self.merge({"a": {"b": "1"}}, {"a": "1"}, {"a": {"b": "1"}}), ("tree", {"a": "1"}))
        self.assertEqual(self.merge({"a": {"b": "1"}}, {"a": "1"}, {"a": {"b": "2"}}), ("clash", [("a",)]))
        self.assertEqual(self.merge({"a": "1"}, {"a": {"b": "1"}}, {"a": "2"}), ("clash", [("a",)]))
        # Two trees in the place of a value are merged with an empty one.
        self.assertEqual(self.merge({"a": "1"}, {"a": {"b": "1"}}, {"a": {"c": "2"}}), ("tree", {"a": {"b": "1", "c": "2"}}))
        self.assertEqual(self.merge({"a": "1"}, {"a": {"b": "1"}}, {"a": {"b": "2"}}), ("clash", [("a", "b")]))

    def test_a_name_that_the_base_lacks(self):
        self.assertEqual(self.merge({}, {"a": {"b": "1"}}, {"a": {"c": {}}}), ("tree", {"a": {"b": "1", "c": {}}}))
        self.assertEqual(self.merge({}, {"a": {"b": "1", "c": {"x": "1"}}}, {"a": {"b": "1", "c": {"y": "2"}}}),
                         ("tree", {"a": {"b": "1", "c": {"x": "1", "y": "2"}}}))
        self.assertEqual(self.merge({}, {"a": {"b": "1"}}, {"a": {"b": "2"}}), ("clash", [("a", "b")]))
        self.assertEqual(self.merge({}, {"a": {}}, {"a": {"b": "2"}}), ("tree", {"a": {"b": "2"}}))
        self.assertEqual(self.merge({}, {"a": "1"}, {"a": "2"}), ("clash", [("a",)]))
        self.assertEqual(self.merge({}, {"a": "1"}, {"a": {}}), ("clash", [("a",)]))

    def test_clashes_are_ascending(self):
        base = {"b": {"x": "1", "c": {"y": "1"}}, "a": "1", "c": "1", "z": "1"}
        one = {"b": {"x": "2", "c": {"y": "2"}}, "a": "2", "c": {}, "z": "2"}
        other = {"b": {"x": "3", "c": {"y": "3"}}, "a": "3", "c": "2", "z": "2"}
        self.assertEqual(self.merge(base, one, other), ("clash", [("a",), ("b", "c", "y"), ("b", "x"), ("c",)]))

    def test_random_merges(self):
        words = {"tree": 0, "clash": 0}
        for seed in range(300):
            rng = random.Random(seed)
            base = random_tree(rng)
            one, other = changed(rng, base), changed(rng, base)
            tree, clashes = slow_merge(base, one, other)
            told = self.merge(base, one, other)
            self.assertEqual(told, ("clash", clashes) if clashes else ("tree", tree))
            self.assertEqual(clashes, sorted(clashes))
            words[told[0]] += 1
            lines = [shuffled(rng, row) for row in (base, one, other)]
            want = told if told[0] == "clash" else ("lines", lines_of_tree(tree, 0))
            self.assertEqual(merged_lines(*lines), want)
        self.assertGreater(min(words.values()), 50)

    def test_changes_that_touch_no_name_in_common(self):
        base = ["a = 1", "b", "  c = 1", "  d = 1"]
        self.assertEqual(merged_lines(base, ["a = 2", "b", "  c = 1", "  d = 1"], ["b", "  d = 2", "  c = 1", "a = 1"]),
                         ("lines", ["a = 2", "b", "  c = 1", "  d = 2"]))

    def test_lines_that_are_wrong(self):
        good = ["a = 1"]
        for k in range(3):
            given = [good, good, good]
            given[k] = ["a", "b", "?"]
            with self.assertRaises(TextError) as caught:
                merged_lines(*given)
            self.assertEqual(caught.exception.at, 2)
        self.assertEqual(merged_lines([], [], []), ("lines", []))

    def test_nothing_is_shared(self):
        base, one, other = {}, {"a": {"b": {"c": "1"}}}, {}
        told = merged_trees(base, one, other)[1]
        self.assertEqual(told, one)
        told["a"]["b"]["c"] = "2"
        told["a"]["x"] = {}
        self.assertEqual(one, {"a": {"b": {"c": "1"}}})
        same = {"a": {"b": {}}}
        merged_trees(same, same, same)[1]["a"]["b"]["x"] = "1"
        self.assertEqual(same, {"a": {"b": {}}})


if __name__ == "__main__":
    unittest.main()
