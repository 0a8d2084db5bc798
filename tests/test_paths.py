"""Points 71 and 72: paths, prefixes and rules."""

import itertools
import random
import unittest

from build import PUBLIC, label
from quiltward.paths import begins, label_of, parse_path, rule_at, show_path
from quiltward.written import show_path as show_written


class PathsTest(unittest.TestCase):
    def test_paths_and_their_texts(self):
        for path, text in [(("a",), "a"), (("a", "b7"), "a/b7"), (("0", "12345678", "z", "abcdefgh"), "0/12345678/z/abcdefgh")]:
            self.assertEqual(show_path(path), text)
            self.assertEqual(show_written(path), text)
            self.assertEqual(parse_path(text), path)

    def test_texts_that_show_no_path(self):
        for text in ["", "/", "//", "a/", "/a", "a//b", "a/b/c/d/e", "123456789", "a/123456789", "A", "a.b", "a b", " a",
                     "a\n", "-", "a_", "\u00e4", "\u0663", "a/\u00b2"]:
            self.assertIsNone(parse_path(text), text)

    def test_begins(self):
        for prefix, path, told in [((), ("a",), True), (("a",), ("a",), True), (("a",), ("a", "b"), True),
                                   (("a", "b"), ("a",), False), (("a",), ("ab",), False), (("b",), ("a", "b"), False),
                                   (("a", "b", "c", "d"), ("a", "b", "c", "d"), True), ((), (), True),
                                   (("a",), (), False), (("a", "c"), ("a", "b", "c"), False)]:
            self.assertIs(begins(prefix, path), told)
        parts = [row for many in range(5) for row in itertools.product("ab", repeat=many)]
        for prefix, path in itertools.product(parts, parts):
            self.assertIs(begins(prefix, path), "/".join(path + ("",)).startswith("/".join(prefix + ("",))) or not prefix)

    def test_the_longest_prefix_counts(self):
        rules = [(("a",), label(2)), ((), label(1, 0)), (("a", "b", "c", "d"), label(4)), (("a", "b"), label(3))]
        for path, at in [(("a", "b"), 3), (("a", "c"), 0), (("a",), 0), (("b",), 1), (("a", "b", "c"), 3),
                         (("a", "b", "c", "d"), 2), ((), 1)]:
            self.assertEqual(rule_at(rules, path), at)
            self.assertEqual(label_of(rules, path), rules[at][1])

    def test_of_several_with_the_same_prefix_the_last_one_counts(self):
        rules = [(("a",), label(2)), (("a", "b"), label(5)), (("a",), label(1)), ((), label(6)), ((), label(7))]
        self.assertEqual([rule_at(rules, path) for path in [("a",), ("a", "b"), ("c",)]], [2, 1, 4])
        self.assertEqual(label_of(rules, ("a", "c")), label(1))

    def test_paths_of_no_rule_are_public(self):
        rules = [(("a",), label(2)), (("b", "c"), label(3))]
        for path in [("b",), ("c", "a"), ("ab",), ()]:
            self.assertIsNone(rule_at(rules, path))
            self.assertEqual(label_of(rules, path), PUBLIC)
        self.assertIsNone(rule_at([], ("a",)))
        self.assertEqual(label_of([], ("a",)), PUBLIC)

    def test_random_rules(self):
        rng = random.Random(7)
        prefixes = [row for many in range(5) for row in itertools.product("ab", repeat=many)]
        for _ in range(200):
            rules = [(rng.choice(prefixes), label(rng.randint(0, 7))) for _ in range(rng.randint(0, 8))]
            path = rng.choice(prefixes[1:])
            found = [(len(rule[0]), at) for at, rule in enumerate(rules) if path[:len(rule[0])] == rule[0]]
            self.assertEqual(rule_at(rules, path), max(found)[1] if found else None)
            self.assertEqual(label_of(rules, path), rules[max(found)[1]][1] if found else PUBLIC)


if __name__ == "__main__":
    unittest.main()
