"""Points 150 to 154: what hands say."""

import itertools
import random
import unittest

from build import ANN, BOB, EVE, FILE, closed, label, name, patch, random_rows, slow_needs, start
from quiltward.errors import VouchError
from quiltward.sets import is_set, set_of
from quiltward.vouching import (accepted, check_record, said_of, standing_records, unmet, wanting, wanting_for, why,
                                why_right, with_record)

HANDS = ["ann", "bob", "cid", "dan", "eve", "fay"]
DAN = name("dan", 1)
ONE = start("x", "y")
TWO = patch(BOB, ("lines", FILE, [(ANN, 1, 0)], [], ["b"]))
THREE = patch(EVE, ("cut", FILE, [(BOB, 0, 0)]))
LONE = patch(DAN, ("add", ("z",)))
WHOLE = set_of([ONE, TWO, THREE, LONE])


def some(count, *hands, own=True):
    return ("some", count, list(hands), own)


def none(*hands):
    return ("none", list(hands))


def records_of(*rows):
    """Records of triples of a hand, a number and a record."""
    records = {}
    for hand, number, what in rows:
        records = with_record(records, (hand, number), what)
    return records


def random_records(rng, ids, many):
    """Random records, some of which withdraw others."""
    records = {}
    for _ in range(many):
        key = (rng.choice(HANDS), rng.randint(1, 9))
        what = (rng.choice(["agree", "agree", "agree", "refuse"]), rng.choice(ids))
        if key[1] > 1 and rng.random() < 0.35:
            what = ("withdraw", rng.randint(1, key[1] - 1))
        records.setdefault(key, what)
    return records


def random_rules(rng):
    rules = []
    for _ in range(rng.randint(0, 3)):
        hands = sorted(rng.sample(HANDS, rng.randint(1, 5)))
        rules.append(none(*hands[:2]) if rng.random() < 0.3 else some(rng.randint(0, 2), *hands, own=rng.random() < 0.5))
    return rules


def stands(records, key):
    """Whether a record stands, as point 151 says it."""
    return not any(other[0] == key[0] and what == ("withdraw", key[1]) and stands(records, other)
                   for other, what in records.items())


def says(records, hand, word, one):
    return [number for (who, number), what in sorted(records.items())
            if who == hand and what == (word, one) and stands(records, (who, number))]


def met(rule, records, one, more=()):
    """Whether a demand is met for a patch itself, if some hands agree as well."""
    if rule[0] == "none":
        return not any(says(records, hand, "refuse", one) for hand in rule[1])
    hands = [hand for hand in rule[2] if says(records, hand, "agree", one) or hand in more]
    return len([hand for hand in hands if rule[3] or hand != one[1]]) >= rule[1]


class RecordTest(unittest.TestCase):
    def wrong(self, key, what, place):
        for deed in [check_record, lambda *given: with_record({}, *given)]:
            with self.assertRaises(VouchError) as caught:
                deed(key, what)
            self.assertEqual(caught.exception.place, place)

    def test_records_that_are_as_told(self):
        for key, what in [(("ann", 1), ("agree", ANN)), (("a", 99999), ("refuse", name("zzzzzzzz", 99999, label(7, 0, 5)))),
                          (("abcdefgh", 2), ("withdraw", 1)), (("ann", 99999), ("withdraw", 99998))]:
            self.assertIsNone(check_record(key, what))
            self.assertEqual(with_record({}, key, what), {key: what})

    def test_keys(self):
        for key in [("", 1), ("abcdefghi", 1), ("Ann", 1), ("an1", 1), ("a-b", 1), ("a ", 1), ("ann", 0), ("ann", -1), ("ann", 100000)]:
            self.wrong(key, ("agree", ANN), "key")
            # The pair is looked at first.
            self.wrong(key, ("agree", name("Ann", 1)), "key")
            self.wrong(key, ("withdraw", 0), "key")

    def test_numbers(self):
        for number, other in [(1, 1), (1, 0), (5, 5), (5, 6), (5, 0), (5, -1), (99999, 99999), (2, 100000)]:
            self.wrong(("ann", number), ("withdraw", other), "number")

    def test_ids(self):
        for one in [name("ann", 0), name("ann", 100000), name("Ann", 1), name("", 1), name("abcdefghi", 1),
                    (("label", 8, ()), "ann", 1), (("label", 0, (6,)), "ann", 1), (("label", 0, (2, 1)), "ann", 1)]:
            self.wrong(("ann", 1), ("agree", one), "id")
            self.wrong(("ann", 1), ("refuse", one), "id")

    def test_other_records_with_the_same_pair(self):
        records = with_record({}, ("ann", 5), ("agree", ANN))
        self.assertEqual(with_record(records, ("ann", 5), ("agree", ANN)), records)
        self.assertIsNot(with_record(records, ("ann", 5), ("agree", ANN)), records)
        for what in [("agree", BOB), ("refuse", ANN), ("withdraw", 4)]:
            with self.assertRaises(VouchError) as caught:
                with_record(records, ("ann", 5), what)
            self.assertEqual(caught.exception.place, "other")
        with self.assertRaises(VouchError) as caught:
            with_record(records, ("ann", 5), ("withdraw", 5))
        self.assertEqual(caught.exception.place, "number")
        self.assertEqual(records, {("ann", 5): ("agree", ANN)})
        self.assertEqual(len(with_record(records, ("bob", 5), ("refuse", ANN))), 2)


class StandingTest(unittest.TestCase):
    def test_withdrawals(self):
        rows = [("ann", 1, ("agree", ANN)), ("ann", 2, ("withdraw", 1)), ("ann", 3, ("withdraw", 2)), ("ann", 4, ("withdraw", 3))]
        keys = [(hand, number) for hand, number, _ in rows]
        for many, want in [(1, [0]), (2, [1]), (3, [0, 2]), (4, [1, 3])]:
            self.assertEqual(standing_records(records_of(*rows[:many])), {keys[k]: True for k in want})
        # Of another hand it takes nothing back.
        self.assertEqual(len(standing_records(records_of(rows[0], ("bob", 2, ("withdraw", 1))))), 2)

    def test_records_that_have_not_come(self):
        rows = [("ann", 3, ("withdraw", 1)), ("ann", 4, ("agree", ANN)), ("ann", 9, ("withdraw", 8))]
        self.assertEqual(len(standing_records(records_of(*rows))), 3)
        records = records_of(*rows, ("ann", 1, ("agree", BOB)), ("ann", 8, ("withdraw", 3)))
        self.assertEqual(standing_records(records), {("ann", 3): True, ("ann", 4): True, ("ann", 9): True})

    def test_any_order(self):
        for seed in range(60):
            rng = random.Random(seed)
            records = random_records(rng, [ANN, BOB], 14)
            want = {key: True for key in records if stands(records, key)}
            self.assertEqual(standing_records(records), want)
            for _ in range(3):
                other = {}
                for key in rng.sample(sorted(records), len(records)):
                    other = with_record(other, key, records[key])
                self.assertEqual(standing_records(other), want)
            for one in [ANN, BOB, EVE]:
                for word in ["agree", "refuse"]:
                    told = [(hand, says(records, hand, word, one)[0]) for hand in HANDS if says(records, hand, word, one)]
                    self.assertEqual(said_of(records, one, word), told)

    def test_said_of(self):
        records = records_of(("ann", 7, ("agree", ANN)), ("ann", 2, ("agree", ANN)), ("ann", 3, ("refuse", ANN)),
                             ("bob", 5, ("agree", ANN)), ("bob", 6, ("withdraw", 5)), ("ann", 1, ("agree", BOB)))
        self.assertEqual(said_of(records, ANN, "agree"), [("ann", 2)])
        self.assertEqual(said_of(records, ANN, "refuse"), [("ann", 3)])
        self.assertEqual(said_of(records, name("zed", 1), "agree"), [])
        records = with_record(records, ("ann", 9), ("withdraw", 2))
        self.assertEqual(said_of(records, ANN, "agree"), [("ann", 7)])
        self.assertEqual(said_of({}, ANN, "refuse"), [])


class AcceptedTest(unittest.TestCase):
    def test_unmet(self):
        records = records_of(("ann", 1, ("agree", ANN)), ("bob", 1, ("agree", ANN)), ("eve", 1, ("refuse", ANN)))
        for rule, want in [(some(2, "ann", "bob"), True), (some(2, "ann", "bob", own=False), False), (some(0), True), (some(1), False),
                           (some(0, "eve"), True), (some(1, "eve"), False), (none("ann", "bob"), True), (none("eve"), False),
                           (none(), True), (some(1, "ann", own=False), False), (some(3, "ann", "bob", "cid"), False)]:
            self.assertEqual(unmet([rule], records, ANN), [] if want else [0], rule)
        rules = [some(1, "eve"), some(1, "ann"), none("eve"), some(5, "ann")]
        self.assertEqual(unmet(rules, records, ANN), [0, 2, 3])
        self.assertEqual(unmet([], records, ANN), [])
        # The one who has recorded it is who counts or not, whoever else agrees.
        self.assertEqual(unmet([some(1, "ann", own=False)], records_of(("ann", 1, ("agree", BOB))), BOB), [])

    def test_a_hand_that_agrees_and_refuses(self):
        records = records_of(("bob", 1, ("agree", ANN)), ("bob", 2, ("refuse", ANN)))
        self.assertEqual(unmet([some(1, "bob"), none("bob")], records, ANN), [1])

    def test_accepted(self):
        rules = [some(1, "cid")]
        self.assertEqual(accepted(WHOLE, [], {}), WHOLE)
        self.assertEqual(accepted(WHOLE, rules, {}), {})
        records = records_of(("cid", 1, ("agree", BOB)), ("cid", 2, ("agree", DAN)))
        self.assertEqual(accepted(WHOLE, rules, records), set_of([LONE]))
        records = with_record(records, ("cid", 3), ("agree", ANN))
        self.assertEqual(accepted(WHOLE, rules, records), set_of([ONE, TWO, LONE]))
        records = with_record(records, ("cid", 4), ("withdraw", 3))
        self.assertEqual(accepted(WHOLE, rules, records), set_of([LONE]))
        self.assertEqual(accepted({}, rules, records), {})

    def test_random_records(self):
        found = 0
        for seed in range(60):
            rng = random.Random(seed)
            rows = random_rows(seed, 8)
            whole, rules = set_of(rows), random_rules(rng)
            records = random_records(rng, sorted(whole), 40)
            alone = {one for one in whole if all(met(rule, records, one) for rule in rules)}
            want = {one: whole[one] for one in whole if all(row[1] in alone for row in closed(rows, [one]))}
            told = accepted(whole, rules, records)
            self.assertEqual(told, want)
            self.assertTrue(is_set(told))
            found += 0 < len(told) < len(whole)
            for one in whole:
                self.assertEqual(unmet(rules, records, one), [at for at, rule in enumerate(rules) if not met(rule, records, one)])
            # Records that agree only make it greater, those that refuse only smaller.
            more = with_record(records, ("ann", 50), ("agree", rng.choice(rows)[1]))
            self.assertLessEqual(set(told), set(accepted(whole, rules, more)))
            more = with_record(records, ("ann", 50), ("refuse", rng.choice(rows)[1]))
            self.assertLessEqual(set(accepted(whole, rules, more)), set(told))
        self.assertGreater(found, 10)


class WhyTest(unittest.TestCase):
    RULES = [some(2, "ann", "bob", "cid", own=False), none("eve"), some(0, "dan")]
    RECORDS = records_of(("bob", 3, ("agree", ANN)), ("bob", 1, ("agree", ANN)), ("cid", 4, ("agree", ANN)), ("ann", 1, ("agree", ANN)),
                         ("ann", 2, ("agree", BOB)), ("cid", 1, ("agree", BOB)), ("bob", 2, ("agree", BOB)), ("cid", 9, ("withdraw", 8)),
                         ("cid", 8, ("agree", ANN)))
    PAPER = ("yes", [(ANN, [[("bob", 1), ("cid", 4)], [], []]), (BOB, [[("ann", 2), ("cid", 1)], [], []])])

    def right(self, paper, want=False, one=BOB):
        self.assertIs(why_right(WHOLE, self.RULES, self.RECORDS, one, paper), want, paper)

    def rows(self, pairs, second=(), third=()):
        """The paper with other lists for ANN."""
        self.right(("yes", [(ANN, [list(pairs), list(second), list(third)]), self.PAPER[1][1]]))

    def test_yes(self):
        self.assertEqual(why(WHOLE, self.RULES, self.RECORDS, BOB), self.PAPER)
        self.right(self.PAPER, True)
        for pairs in [[("cid", 4), ("bob", 1)], [("bob", 3), ("cid", 4)]]:
            self.right(("yes", [(ANN, [pairs, [], []]), self.PAPER[1][1]]), True)

    def test_wrong_rows(self):
        one, two = self.PAPER[1]
        for rows in [[], [one], [two], [two, one], [one, one, two], [one, two, two], [one, two, (DAN, [[], [], []])],
                     [(BOB, one[1]), (ANN, two[1])], [one, (name("zed", 1), two[1])]]:
            self.right(("yes", rows))
        for lists in [[], one[1][:2], one[1] + [[]], one[1][::-1]]:
            self.right(("yes", [(ANN, lists), two]))

    def test_wrong_pairs(self):
        bob, cid = ("bob", 1), ("cid", 4)
        for pairs in [[], [bob], [bob, bob], [bob, ("bob", 3)], [bob, cid, ("ann", 1)], [bob, ("ann", 1)], [bob, ("cid", 5)],
                      [bob, ("cid", 8)], [bob, ("cid", 1)], [bob, ("cid", 9)], [bob, ("zed", 4)], [bob, ("cid", -4)], [bob, ("bob", 2)]]:
            self.rows(pairs)
        self.rows([bob, cid], [bob])
        self.rows([bob, cid], [], [bob])

    def test_hands_that_are_not_in_the_demand(self):
        records = records_of(("zed", 1, ("agree", DAN)), ("ann", 1, ("agree", DAN)), ("ann", 2, ("refuse", DAN)))
        rules = [some(1, "ann")]
        for pairs, want in [([("ann", 1)], True), ([("zed", 1)], False), ([("ann", 2)], False)]:
            self.assertIs(why_right(WHOLE, rules, records, DAN, ("yes", [(DAN, [pairs])])), want)

    def test_a_demand_of_the_kind_none(self):
        records = with_record(self.RECORDS, ("eve", 1), ("refuse", ANN))
        self.assertIs(why_right(WHOLE, self.RULES, records, BOB, self.PAPER), False)
        self.assertEqual(why(WHOLE, self.RULES, records, BOB), ("no", [BOB, ANN], 1))
        self.assertIs(why_right(WHOLE, self.RULES, records, BOB, ("no", [BOB, ANN], 1)), True)

    def test_no(self):
        for one, want in [(EVE, ("no", [EVE], 0)), (DAN, ("no", [DAN], 0))]:
            self.assertEqual(why(WHOLE, self.RULES, self.RECORDS, one), want)
            self.right(want, True, one)
        records = records_of(*[(hand, 1, ("agree", EVE)) for hand in HANDS], *[(hand, 2, ("agree", BOB)) for hand in HANDS])
        self.assertEqual(why(WHOLE, self.RULES, records, EVE), ("no", [EVE, ANN], 0))
        for way, want in [([EVE, ANN], True), ([EVE, BOB, ANN], True), ([EVE], False), ([EVE, BOB], False), ([ANN], False), ([], False),
                          ([BOB, ANN], False), ([EVE, EVE, ANN], False), ([EVE, ANN, ANN], False), ([EVE, DAN], False),
                          ([EVE, name("zed", 1)], False), ([name("zed", 1)], False), ([EVE, ANN, BOB], False)]:
            self.assertIs(why_right(WHOLE, self.RULES, records, EVE, ("no", way, 0)), want, way)
        for index in [-3, -1, 1, 2, 3, 99]:
            self.assertIs(why_right(WHOLE, self.RULES, records, EVE, ("no", [EVE, ANN], index)), False)

    def test_the_least_index(self):
        rules = [none("zed"), some(1, "cid"), some(1, "dan")]
        self.assertEqual(why(WHOLE, rules, {}, EVE), ("no", [EVE], 1))
        self.assertIs(why_right(WHOLE, rules, {}, EVE, ("no", [EVE], 2)), True)
        self.assertIs(why_right(WHOLE, rules, {}, EVE, ("no", [EVE, BOB, ANN], 2)), True)
        records = records_of(("cid", 1, ("agree", EVE)), ("dan", 1, ("agree", EVE)), ("cid", 2, ("agree", ANN)))
        self.assertEqual(why(WHOLE, rules, records, EVE), ("no", [EVE, BOB], 1))

    def test_random_papers(self):
        words = {"yes": 0, "no": 0}
        for seed in range(80):
            rng = random.Random(seed)
            rows = random_rows(seed, 7)
            whole, rules = set_of(rows), random_rules(rng)
            records = random_records(rng, sorted(whole), 45)
            fine = accepted(whole, rules, records)
            for one in whole:
                paper = why(whole, rules, records, one)
                words[paper[0]] += 1
                self.assertEqual(paper[0], "yes" if one in fine else "no")
                self.assertIs(why_right(whole, rules, records, one, paper), True)
                ids = sorted(row[1] for row in closed(rows, [one]))
                if paper[0] == "no":
                    self.assertEqual((len(paper[1]), paper[2]), self.nearest(whole, rules, records, one))
                    self.assertIs(why_right(whole, rules, records, one, ("yes", [(two, [[] for _ in rules]) for two in ids])), False)
                    continue
                want = [(two, [[(hand, says(records, hand, "agree", two)[0]) for hand in rule[2] if says(records, hand, "agree", two)
                                and (rule[3] or hand != two[1])][:rule[1]] if rule[0] == "some" else [] for rule in rules]) for two in ids]
                self.assertEqual(paper, ("yes", want))
                for at in range(len(rules)):
                    self.assertIs(why_right(whole, rules, records, one, ("no", [one], at)), False)
        self.assertGreater(min(words.values()), 60)

    def nearest(self, whole, rules, records, one):
        """How many ids the shortest way to an unmet demand has, and the least index there."""
        ids, many = {one}, 1
        while True:
            found = [at for two in ids for at, rule in enumerate(rules) if not met(rule, records, two)]
            if found:
                return many, min(found)
            ids, many = {other for two in ids for other in slow_needs(whole[two])}, many + 1


class WantingTest(unittest.TestCase):
    def test_wanting(self):
        records = records_of(("bob", 1, ("agree", ANN)), ("eve", 1, ("refuse", ANN)))
        for rules, want in [([], []), ([some(1, "ann", "bob")], []), ([some(2, "ann", "bob", "cid")], ["ann"]),
                            ([some(2, "ann", "bob", "cid", own=False)], ["cid"]), ([some(3, "ann", "bob", "cid")], ["ann", "cid"]),
                            ([some(3, "ann", "bob", "cid", own=False)], None), ([some(1)], None), ([some(0)], []),
                            ([some(4, "ann", "bob", "cid")], None), ([none("eve")], None), ([none("eve"), some(1, "cid")], None),
                            ([none("ann"), some(1, "cid")], ["cid"]), ([some(1, "eve")], ["eve"]),
                            ([some(1, "cid", "dan"), some(1, "dan", "eve")], ["dan"]),
                            ([some(1, "cid", "dan"), some(1, "eve", "fay")], ["cid", "eve"]),
                            ([some(2, "bob", "cid", "dan"), some(1, "dan", "eve"), some(1, "ann", "fay", own=False)], ["dan", "fay"])]:
            self.assertEqual(wanting_for(rules, records, ANN), want, rules)

    def test_several_lists_that_are_as_short(self):
        rules = [some(1, "ann", "dan"), some(1, "bob", "dan"), some(1, "bob", "cid")]
        self.assertEqual(wanting_for(rules, {}, EVE), ["ann", "bob"])
        self.assertEqual(wanting_for([some(2, *HANDS)], {}, EVE), ["ann", "bob"])
        self.assertEqual(wanting_for([some(2, *HANDS, own=False)], {}, ANN), ["bob", "cid"])

    def test_many_hands(self):
        hands = [[f"{first}{second}" for second in "abcdefgh"] for first in "abcdef"]
        rules = [some(4, *row) for row in hands]
        self.assertEqual(wanting_for(rules, {}, ANN), [hand for row in hands for hand in row[:4]])
        self.assertIsNone(wanting_for(rules + [some(9, *hands[0])], {}, ANN))
        rules = [some(2, *row) for row in hands] + [some(6, *[row[7] for row in hands])]
        self.assertEqual(wanting_for(rules, {}, ANN), sorted([row[0] for row in hands] + [row[7] for row in hands]))

    def test_random_records(self):
        kinds = {}
        for seed in range(150):
            rng = random.Random(seed)
            rows = random_rows(seed, 5)
            whole, rules = set_of(rows), random_rules(rng)
            records = random_records(rng, sorted(whole), rng.randint(0, 30))
            for one in whole:
                free = [hand for hand in HANDS if not says(records, hand, "agree", one)]
                want = next((list(row) for many in range(len(free) + 1) for row in itertools.combinations(free, many)
                             if all(met(rule, records, one, row) for rule in rules)), None)
                self.assertEqual(wanting_for(rules, records, one), want)
                self.assertIs(want == [], not unmet(rules, records, one))
                kinds[None if want is None else len(want)] = True
                ids = sorted(row[1] for row in closed(rows, [one]))
                self.assertEqual(wanting(whole, rules, records, one), [(two, wanting_for(rules, records, two)) for two in ids])
                if want:
                    more = records
                    for hand in want:
                        more = with_record(more, (hand, 90), ("agree", one))
                    self.assertEqual(unmet(rules, more, one), [])
        self.assertTrue({None, 0, 1, 2, 3} <= set(kinds))

    def test_what_is_needed(self):
        rules = [some(1, "cid")]
        records = records_of(("cid", 1, ("agree", BOB)))
        self.assertEqual(wanting(WHOLE, rules, records, EVE), [(ANN, ["cid"]), (BOB, []), (EVE, ["cid"])])
        self.assertEqual(wanting(WHOLE, rules, records, DAN), [(DAN, ["cid"])])


if __name__ == "__main__":
    unittest.main()
