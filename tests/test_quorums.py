"""Points 155 and 156: quorums, with the demands of point 152."""

import itertools
import random
import unittest

from quiltward.quorums import apart, blockers, dual, hands_of, quorums, suffices

HANDS = ["ann", "bob", "cid", "dan", "eve", "fay", "gus", "hal"]


def some(count, *hands, own=True):
    return ("some", count, list(hands), own)


def subsets(hands):
    return [list(row) for many in range(len(hands) + 1) for row in itertools.combinations(hands, many)]


def least(rows):
    """Those lists that have no shorter one in them."""
    return [row for row in rows if not any(set(other) < set(row) for other in rows)]


def slow_suffices(rules, author, hands):
    for rule in rules:
        if rule[0] == "some":
            counted = [one for one in rule[2] if one in hands and (rule[3] or one != author)]
            if len(counted) < rule[1]:
                return False
    return True


def random_rules(rng):
    """Random demands, at most 8 hands of which count."""
    rules = []
    for _ in range(rng.randint(0, 3)):
        hands = sorted(rng.sample(HANDS[:6], rng.randint(0, 5)))
        if rng.random() < 0.2:
            rules.append(("none", hands))
        else:
            rules.append(("some", rng.randint(0, max(1, len(hands) - rng.choice([0, 0, 1, 2]))), hands, rng.random() < 0.5))
    return rules


class HandsTest(unittest.TestCase):
    def test_hands_of(self):
        rules = [some(1, "bob", "eve"), some(2, "ann", "bob", own=False), ("none", ["zed"])]
        self.assertEqual(hands_of(rules, "cid"), ["ann", "bob", "eve"])
        self.assertEqual(hands_of(rules, "ann"), ["bob", "eve"])
        # A hand that counts in one demand counts, though it does not in another one.
        self.assertEqual(hands_of(rules, "bob"), ["ann", "bob", "eve"])
        self.assertEqual(hands_of(rules, "zed"), ["ann", "bob", "eve"])
        self.assertEqual(hands_of([], "ann"), [])
        self.assertEqual(hands_of([("none", ["ann"])], "ann"), [])
        self.assertEqual(hands_of([some(0, "ann")], "bob"), ["ann"])

    def test_suffices(self):
        rules = [some(2, "ann", "bob", "eve", own=False), some(1, "dan", "eve"), ("none", ["bob"])]
        for author, hands, want in [("cid", ["ann", "eve"], True), ("cid", ["ann", "bob"], False), ("cid", ["dan", "eve"], False),
                                    ("cid", ["ann", "bob", "dan"], True), ("ann", ["ann", "eve"], False),
                                    ("eve", ["ann", "eve"], False), ("eve", ["ann", "bob", "eve"], True), ("cid", [], False),
                                    ("ann", ["bob", "eve", "zed"], True), ("cid", ["eve", "ann", "eve"], True),
                                    ("cid", ["eve", "eve"], False)]:
            self.assertIs(suffices(rules, author, hands), want, (author, hands))
        self.assertIs(suffices([], "ann", []), True)
        self.assertIs(suffices([("none", ["ann"])], "ann", ["ann"]), True)
        self.assertIs(suffices([some(0)], "ann", []), True)
        self.assertIs(suffices([some(1)], "ann", HANDS), False)


class QuorumsTest(unittest.TestCase):
    def both(self, rules, author, want, blocking):
        self.assertEqual(quorums(rules, author), want)
        self.assertEqual(blockers(rules, author), blocking)

    def test_one_demand(self):
        self.both([some(2, "ann", "bob", "eve")], "ann", [["ann", "bob"], ["ann", "eve"], ["bob", "eve"]],
                  [["ann", "bob"], ["ann", "eve"], ["bob", "eve"]])
        self.both([some(2, "ann", "bob", "eve", own=False)], "ann", [["bob", "eve"]], [["bob"], ["eve"]])
        self.both([some(1, "ann", "bob")], "eve", [["ann"], ["bob"]], [["ann", "bob"]])
        self.both([some(2, "ann", "bob")], "eve", [["ann", "bob"]], [["ann"], ["bob"]])

    def test_counts_at_their_bounds(self):
        # The empty list suffices: nobody can hold it up.
        self.both([some(0, "ann", "bob")], "eve", [[]], [])
        self.both([], "eve", [[]], [])
        self.both([("none", ["ann"])], "ann", [[]], [])
        # Nobody suffices: the empty list holds it up.
        self.both([some(3, "ann", "bob")], "eve", [], [[]])
        self.both([some(1)], "eve", [], [[]])
        self.both([some(1, "ann", own=False)], "ann", [], [[]])
        self.both([some(1, "ann"), some(2, "bob")], "eve", [], [[]])

    def test_several_demands(self):
        rules = [some(1, "ann", "bob"), some(1, "bob", "eve", own=False)]
        self.both(rules, "zed", [["bob"], ["ann", "eve"]], [["ann", "bob"], ["bob", "eve"]])
        self.both(rules, "bob", [["ann", "eve"], ["bob", "eve"]], [["eve"], ["ann", "bob"]])
        self.both(rules + [("none", ["eve"])], "eve", [["bob"]], [["bob"]])

    def test_hands_that_are_in_one_demand_only(self):
        rules = [some(1, "ann"), some(1, "bob", "eve")]
        self.both(rules, "zed", [["ann", "bob"], ["ann", "eve"]], [["ann"], ["bob", "eve"]])
        # A hand of a demand that asks for nothing counts, but is in no quorum and in no blocker.
        self.both(rules + [some(0, "dan")], "zed", [["ann", "bob"], ["ann", "eve"]], [["ann"], ["bob", "eve"]])

    def test_eight_hands(self):
        told = quorums([some(4, *HANDS)], "zed")
        self.assertEqual((len(told), told[0], told[-1]), (70, HANDS[:4], HANDS[4:]))
        self.assertEqual(len(blockers([some(4, *HANDS)], "zed")), 56)

    def test_random_rules(self):
        for seed in range(120):
            rng = random.Random(seed)
            rules, author = random_rules(rng), rng.choice(HANDS[:7])
            hands = hands_of(rules, author)
            enough = [row for row in subsets(hands) if slow_suffices(rules, author, row)]
            stops = [row for row in subsets(hands) if not slow_suffices(rules, author, [one for one in hands if one not in row])]
            self.both(rules, author, least(enough), least(stops))
            self.assertEqual(dual(least(enough), hands), least(stops))
            self.assertEqual(dual(least(stops), hands), least(enough))
            for row in subsets(hands):
                self.assertIs(suffices(rules, author, row), row in enough)
                self.assertIs(any(set(one) <= set(row) for one in quorums(rules, author)), row in enough)


class DualTest(unittest.TestCase):
    def test_dual(self):
        for lists, want in [([], [[]]), ([[]], []), ([["ann"]], [["ann"]]), ([["ann"], ["bob"]], [["ann", "bob"]]),
                            ([["ann", "bob"]], [["ann"], ["bob"]]), ([["ann"], []], []), ([["zed"]], []),
                            ([["ann", "zed"], ["bob"]], [["ann", "bob"]]), ([["ann", "bob"], ["ann", "cid"]], [["ann"], ["bob", "cid"]]),
                            ([["ann"], ["ann"], ["ann", "bob"]], [["ann"]])]:
            self.assertEqual(dual(lists, HANDS[:3]), want, lists)
        self.assertEqual(dual([["ann"]], []), [])
        self.assertEqual(dual([], []), [[]])

    def test_shorter_ones_come_first(self):
        lists = [["ann", "eve"], ["bob", "eve"], ["cid", "eve"]]
        self.assertEqual(dual(lists, HANDS), [["eve"], ["ann", "bob", "cid"]])

    def test_the_dual_of_the_dual(self):
        for seed in range(80):
            rng = random.Random(seed)
            lists = [sorted(rng.sample(HANDS[:6], rng.randint(1, 4))) for _ in range(rng.randint(0, 5))]
            told = dual(lists, HANDS[:6])
            hits = [row for row in subsets(HANDS[:6]) if all(set(row) & set(one) for one in lists)]
            self.assertEqual(told, least(hits))
            once = sorted(least([list(row) for row in {tuple(row) for row in lists}]), key=lambda row: (len(row), row))
            self.assertEqual(dual(told, HANDS[:6]), once)


class ApartTest(unittest.TestCase):
    def test_apart(self):
        self.assertIsNone(apart([some(2, "ann", "bob", "eve")], "ann"))
        self.assertEqual(apart([some(1, "ann", "bob")], "eve"), (["ann"], ["bob"]))
        self.assertEqual(apart([some(1, "ann", "bob", "cid")], "eve"), (["ann"], ["bob"]))
        # The empty one shares no hand with itself.
        self.assertEqual(apart([], "ann"), ([], []))
        self.assertEqual(apart([some(0, "ann")], "ann"), ([], []))
        # One alone shares its hands with itself.
        self.assertIsNone(apart([some(1, "ann")], "eve"))
        # No quorum at all.
        self.assertIsNone(apart([some(1)], "ann"))

    def test_the_first_partner(self):
        rules = [some(1, "ann", "bob"), some(1, "bob", "cid", "dan")]
        self.assertEqual(quorums(rules, "zed"), [["bob"], ["ann", "cid"], ["ann", "dan"]])
        self.assertEqual(apart(rules, "zed"), (["bob"], ["ann", "cid"]))
        self.assertEqual(apart([some(2, *HANDS[:4])], "zed"), (["ann", "bob"], ["cid", "dan"]))

    def test_random_rules(self):
        found = 0
        for seed in range(120):
            rng = random.Random(seed)
            rules, author = random_rules(rng), rng.choice(HANDS[:7])
            rows = quorums(rules, author)
            pairs = [(one, other) for at, one in enumerate(rows) for other in rows[at:] if not set(one) & set(other)]
            self.assertEqual(apart(rules, author), pairs[0] if pairs else None)
            found += bool(pairs)
        self.assertTrue(20 < found < 110)


if __name__ == "__main__":
    unittest.main()
