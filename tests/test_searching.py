"""Points 140 to 147: searching for the cause of a fault."""

import itertools
import random
import unittest

from build import ANN, BOB, EVE, FILE, closed, name, patch, random_rows, slow_needs, start
from quiltward.searching import (Search, causes_between, depth, is_bad, new_ids, parts_between, picks_between, plan,
                                 plan_right, shield, shield_right)
from quiltward.sets import is_set, set_of

DAN = name("dan", 1)
ONE = start("x", "y")
TWO = patch(BOB, ("lines", FILE, [(ANN, 1, 0)], [], ["b"]))
THREE = patch(EVE, ("cut", FILE, [(BOB, 0, 0)]))
LONE = patch(DAN, ("add", ("z",)))
WHOLE = set_of([ONE, TWO, THREE, LONE])
IDS = [name("ann", k) for k in range(1, 13)]
A, B, C, D = IDS[:4]


def plain(many):
    """A set of patches that need nothing."""
    return set_of([patch(one, ("add", ("a",))) for one in IDS[:many]])


def needed(whole, one):
    return {row[1] for row in closed(list(whole.values()), [one])} - {one}


class BetweenTest(unittest.TestCase):
    def test_no_new_id(self):
        for good in [{}, WHOLE]:
            self.assertEqual(new_ids(good, good), [])
            self.assertEqual(parts_between(good, good), [[]])
            self.assertEqual(picks_between(good, good), [])
            self.assertEqual(causes_between(good, good, 1), [])
            self.assertEqual(causes_between(good, good, 2), [])

    def test_new_ids(self):
        self.assertEqual(new_ids({}, WHOLE), [ANN, BOB, DAN, EVE])
        self.assertEqual(new_ids(set_of([ONE, LONE]), WHOLE), [BOB, EVE])

    def test_parts(self):
        self.assertEqual(parts_between({}, WHOLE), [[], [ANN], [DAN], [ANN, BOB], [ANN, DAN], [ANN, BOB, DAN], [ANN, BOB, EVE],
                                                    [ANN, BOB, DAN, EVE]])
        self.assertEqual(parts_between(set_of([ONE]), WHOLE), [[], [BOB], [DAN], [BOB, DAN], [BOB, EVE], [BOB, DAN, EVE]])
        self.assertEqual(len(parts_between({}, plain(8))), 256)
        self.assertEqual(parts_between({}, plain(2)), [[], [A], [B], [A, B]])

    def test_picks(self):
        self.assertEqual(picks_between({}, WHOLE), [[ANN], [ANN, BOB], [DAN], [ANN, BOB, EVE]])
        self.assertEqual(picks_between(set_of([ONE]), WHOLE), [[BOB], [DAN], [BOB, EVE]])
        self.assertEqual(picks_between({}, plain(12)), [[one] for one in IDS])

    def test_causes(self):
        self.assertEqual(causes_between({}, WHOLE, 1), [[ANN], [BOB], [DAN], [EVE]])
        self.assertEqual(causes_between({}, WHOLE, 2), [[ANN], [BOB], [DAN], [EVE], [ANN, DAN], [BOB, DAN], [DAN, EVE]])
        self.assertEqual(causes_between({}, plain(3), 2), [[A], [B], [C], [A, B], [A, C], [B, C]])
        # Needs that go over what is good count too.
        rows = [patch(A, ("add", ("a",))), patch(B, ("back", A)), patch(C, ("back", B))]
        self.assertEqual(causes_between({}, set_of(rows), 2), [[A], [B], [C]])

    def test_random_sets(self):
        for seed in range(25):
            rng = random.Random(seed)
            rows = random_rows(seed, 9)
            whole = set_of(rows)
            good = set_of(closed(rows, rng.sample(sorted(whole), rng.randint(1, 3))))
            new = sorted(set(whole) - set(good))
            self.assertEqual(new_ids(good, whole), new)
            parts = [list(row) for many in range(len(new) + 1) for row in itertools.combinations(new, many)]
            parts = [row for row in parts if is_set({**good, **{one: whole[one] for one in row}})]
            self.assertEqual(parts_between(good, whole), parts)
            picks = picks_between(good, whole)
            self.assertEqual(picks, [sorted(({one} | needed(whole, one)) & set(new)) for one in new])
            self.assertTrue(all(row in parts for row in picks))
            pairs = [list(row) for row in itertools.combinations(new, 2)
                     if row[0] not in needed(whole, row[1]) and row[1] not in needed(whole, row[0])]
            self.assertEqual(causes_between(good, whole, 2), [[one] for one in new] + pairs)
            self.assertEqual(causes_between(good, whole, 1), [[one] for one in new])

    def test_is_bad(self):
        for part, cause, want in [([A, B], [A], True), ([A, B], [C], False), ([A, B], [A, B], True), ([A], [A, B], False),
                                  ([], [A], False), ([A, C], [A, B], False)]:
            self.assertIs(is_bad(part, cause), want)


def split(causes, part):
    return [row for row in causes if set(row) <= set(part)], [row for row in causes if not set(row) <= set(part)]


def slow_depth(causes, tests, known):
    """How many tests the best plan makes."""
    key = tuple(map(tuple, causes))
    if key not in known:
        sides = [split(causes, part) for part in tests]
        known[key] = min((1 + max(slow_depth(bad, tests, known), slow_depth(good, tests, known))
                          for bad, good in sides if bad and good), default=0)
    return known[key]


def slow_plan(causes, tests, known):
    """The best plan, as point 144 says it."""
    best = slow_depth(causes, tests, known)
    for at, part in enumerate(tests):
        bad, good = split(causes, part)
        if bad and good and 1 + max(slow_depth(bad, tests, known), slow_depth(good, tests, known)) == best:
            return "test", at, slow_plan(bad, tests, known), slow_plan(good, tests, known)
    return "found", causes


def random_case(seed):
    """A list of causes and a list of tests."""
    rng = random.Random(seed)
    whole = plain(5)
    if seed % 3 == 0:
        rows = random_rows(seed, 6)
        whole = set_of(rows)
    causes = causes_between({}, whole, 2)
    causes = [row for row in causes if rng.random() < 0.7][:8]
    parts = parts_between({}, whole)
    tests = [rng.choice(parts) for _ in range(rng.randint(0, 9))]
    return causes, rng.choice([tests, tests, picks_between({}, whole)])


class PlanTest(unittest.TestCase):
    def test_nothing_to_tell_apart(self):
        for causes in [[], [[A]], [[A], [B]]]:
            for tests in [[], [[]], [[C]], [[A, B]]]:
                self.assertEqual(plan(causes, tests), ("found", causes))
                self.assertEqual(depth(plan(causes, tests)), 0)
                self.assertEqual(shield(causes, tests), [])
                self.assertIs(plan_right(causes, tests, ("found", causes)), True)
                self.assertIs(shield_right(causes, tests, []), True)

    def test_the_first_test(self):
        one, other = ("found", [[A]]), ("found", [[B]])
        self.assertEqual(plan([[A], [B]], [[], [A, B], [B], [A]]), ("test", 2, other, one))
        self.assertEqual(plan([[A], [B]], [[A], [A], [B]]), ("test", 0, one, other))
        # The first one that leads to the fewest tests, not just the first one that tells something.
        causes = [[A], [B], [C], [D]]
        told = plan(causes, [[A], [A, B], [C, D], [C]])
        self.assertEqual(told, ("test", 1, ("test", 0, one, other), ("test", 3, ("found", [[C]]), ("found", [[D]]))))
        self.assertEqual(depth(told), 2)

    def test_causes_that_no_test_tells_apart(self):
        causes = [[A], [B], [C], [A, B]]
        self.assertEqual(plan(causes, [[A, B]]), ("test", 0, ("found", [[A], [B], [A, B]]), ("found", [[C]])))
        self.assertEqual(plan(causes, [[A]]), ("test", 0, ("found", [[A]]), ("found", [[B], [C], [A, B]])))

    def test_random_plans(self):
        for seed in range(150):
            causes, tests = random_case(seed)
            told, known = plan(causes, tests), {}
            self.assertEqual(told, slow_plan(causes, tests, known))
            self.assertIs(plan_right(causes, tests, told), True)
            self.assertEqual(depth(told), slow_depth(causes, tests, known))

    def test_no_right_plan_makes_fewer_tests(self):
        for seed in range(30):
            causes, tests = random_case(seed)
            causes = causes[:4]
            best = slow_depth(causes, tests, {})
            for tree in self.plans(causes, tests[:4], best - 1):
                self.assertIs(plan_right(causes, tests, tree), False)

    def plans(self, causes, tests, most):
        """All plans with at most so many tests on a way, whose ends list what leads to them."""
        if most < 0:
            return []
        rows = [("found", causes)]
        if most > 0:
            for at, part in enumerate(tests):
                bad, good = split(causes, part)
                rows += [("test", at, one, other) for one in self.plans(bad, tests, most - 1)[:6]
                         for other in self.plans(good, tests, most - 1)[:6]]
        return rows

    def test_many_causes_and_tests(self):
        rng = random.Random(1)
        causes, tests = [[one] for one in IDS], [sorted(rng.sample(IDS, rng.randint(1, 11))) for _ in range(300)]
        told = plan(causes, tests)
        self.assertEqual(depth(told), 4)
        self.assertIs(plan_right(causes, tests, told), True)
        self.assertIs(shield_right(causes, tests, shield(causes, tests)), True)

    def test_how_many_tests(self):
        # All parts between as tests.
        for many in range(1, 9):
            whole = plain(many)
            told = plan(causes_between({}, whole, 1), parts_between({}, whole))
            self.assertEqual(depth(told), (many - 1).bit_length())
        for seed in range(20):
            rows = random_rows(seed, 7)
            whole = set_of(rows)
            causes = causes_between({}, whole, 1)
            self.assertEqual(depth(plan(causes, parts_between({}, whole))), (len(causes) - 1).bit_length())
        # The picks as tests.
        for many in range(1, 13):
            whole = plain(many)
            self.assertEqual(depth(plan(causes_between({}, whole, 1), picks_between({}, whole))), many - 1)


class PlanRightTest(unittest.TestCase):
    CAUSES, TESTS = [[A], [B], [C]], [[A], [A, B], [], [C]]
    GOOD = ("test", 1, ("test", 0, ("found", [[A]]), ("found", [[B]])), ("found", [[C]]))

    def right(self, tree, want=False):
        self.assertIs(plan_right(self.CAUSES, self.TESTS, tree), want, tree)

    def test_right_ones(self):
        self.right(self.GOOD, True)
        self.right(("test", 3, ("found", [[C]]), ("test", 0, ("found", [[A]]), ("found", [[B]]))), True)
        self.right(("test", 3, ("found", [[C]]), ("test", 1, ("test", 0, ("found", [[A]]), ("found", [[B]])), ("found", []))), True)

    def test_a_test_that_tells_nothing(self):
        self.right(("test", 2, ("found", []), self.GOOD), True)
        self.right(("test", 2, self.GOOD, ("found", [])))
        self.right(("test", 2, ("found", []), ("found", [[A], [B], [C]])))

    def test_indexes_out_of_bounds(self):
        for at in [-1, -3, -4, 4, 100]:
            self.right(("test", at) + self.GOOD[2:])
            self.right(self.GOOD[:2] + (("test", at, ("found", [[A]]), ("found", [[B]])), ("found", [[C]])))
            self.right(("test", 2, ("test", at, ("found", []), ("found", [])), self.GOOD))

    def test_wrong_lists(self):
        for causes in [[], [[B]], [[A], [A]], [[A], [B]], [[D]], [[A], []], [[A, B]]]:
            self.right(("test", 1, ("test", 0, ("found", causes), ("found", [[B]])), ("found", [[C]])))
        self.right(("test", 1, self.GOOD[3], self.GOOD[2]))
        self.right(("test", 1, ("test", 0, ("found", [[B]]), ("found", [[A]])), ("found", [[C]])))
        self.right(("test", 1, ("found", [[A], [B]]), ("found", [[C]])))
        self.right(("found", [[A], [B], [C]]))
        self.right(("found", []))
        self.right(("test", 0, ("found", [[A]]), ("found", [[C], [B]])))

    def test_the_order_of_the_first_list(self):
        causes, tests = [[B], [A], [C]], [[A, B]]
        self.assertIs(plan_right(causes, tests, ("test", 0, ("found", [[B], [A]]), ("found", [[C]]))), True)
        self.assertIs(plan_right(causes, tests, ("test", 0, ("found", [[A], [B]]), ("found", [[C]]))), False)

    def test_a_deep_plan(self):
        tree = self.GOOD
        for _ in range(5000):
            tree = ("test", 2, ("found", []), tree)
        self.assertEqual(depth(tree), 5002)
        self.right(tree, True)

    def test_depth(self):
        self.assertEqual([depth(tree) for tree in [self.GOOD, self.GOOD[3], ("test", 9, self.GOOD, self.GOOD)]], [2, 0, 3])
        self.assertEqual(depth(("test", 0, ("found", []), ("test", 0, self.GOOD, ("found", [])))), 4)


def shield_holds(causes, tests, rows):
    """Whether a shield is right, as point 145 says it."""
    for row, number in rows:
        sides = [(bad, good) for bad, good in (split(row, part) for part in tests) if bad and good]
        if number < 1 or not sides or any(one not in causes for one in row):
            return False
        for pair in sides:
            if number > 1 and not any(many >= number - 1 and all(one in side for one in other)
                                      for side in pair for other, many in rows):
                return False
    return True


class ShieldTest(unittest.TestCase):
    CAUSES, TESTS = [[A], [B], [C], [D]], [[A], [B], [C], [D]]

    def test_a_shield(self):
        rows = shield(self.CAUSES, self.TESTS)
        self.assertEqual(rows[0], (self.CAUSES, 3))
        self.assertIs(shield_right(self.CAUSES, self.TESTS, rows), True)
        self.assertIs(shield_right(self.CAUSES, self.TESTS, []), True)

    def right(self, rows, want):
        self.assertIs(shield_right(self.CAUSES, self.TESTS, rows), want, rows)
        self.assertIs(shield_holds(self.CAUSES, self.TESTS, rows), want)

    def test_rows(self):
        self.right([([[A], [B]], 1)], True)
        self.right([(self.CAUSES, 1)], True)
        self.right([([[A]], 1)], False)
        self.right([([], 1)], False)
        self.right([([[A], [B]], 2)], False)
        self.right([([[A], [B], [C]], 2), ([[A], [B]], 1), ([[A], [C]], 1), ([[B], [C]], 1)], True)
        self.right([([[A], [B], [C]], 2), ([[A], [B]], 1), ([[A], [C]], 1)], False)
        self.right([([[A], [B], [C]], 3), ([[A], [B]], 1), ([[A], [C]], 1), ([[B], [C]], 1)], False)
        # Fewer causes, or a greater number, may stand behind a row.
        self.right([(self.CAUSES, 2), ([[A], [B]], 1), ([[C], [D]], 1)], True)
        self.right([(self.CAUSES, 2), ([[A], [B]], 1)], False)
        self.right([([[B], [A]], 1)], True)

    def test_numbers_below_1(self):
        for number in [0, -1]:
            self.right([([[A], [B]], number)], False)
            self.right([([[A], [B]], 1), (self.CAUSES, number)], False)

    def test_causes_that_are_not_of_the_list(self):
        e = IDS[4]
        self.right([([[A], [B], [e]], 1)], False)
        self.right([([[A], [A, B]], 1)], False)

    def test_rows_left_out_and_greater_numbers(self):
        wrong = 0
        for seed in range(12):
            causes, tests = random_case(seed)
            rows = shield(causes[:6], tests)
            causes = causes[:6]
            best = slow_depth(causes, tests, {})
            self.assertEqual(rows[:1], [(causes, best)] if best else [])
            self.assertIs(shield_right(causes, tests, rows), True)
            self.assertTrue(shield_holds(causes, tests, rows))
            for row, number in rows:
                self.assertLessEqual(number, slow_depth(row, tests, {}))
            for at, (row, number) in enumerate(rows):
                for other in [rows[:at] + rows[at + 1:], rows[:at] + [(row, number + 1)] + rows[at + 1:],
                              rows[:at] + [(row, number - 1)] + rows[at + 1:], rows[:at] + [(row[1:], number)] + rows[at + 1:],
                              rows[::-1], rows + rows[at:at + 1]]:
                    want = shield_holds(causes, tests, other)
                    self.assertIs(shield_right(causes, tests, other), want)
                    wrong += not want
                # The number of the best plan is the greatest one that any shield can tell.
                more = rows[:at] + [(row, slow_depth(row, tests, {}) + 1)] + rows[at + 1:]
                self.assertIs(shield_right(causes, tests, more), False)
        self.assertGreater(wrong, 100)


class SearchTest(unittest.TestCase):
    def test_a_search(self):
        search = Search([[A], [B], [C]], [[A], [A, B]])
        self.assertEqual((search.made, search.next_part(), search.found()), (0, [A], None))
        self.assertIsNone(search.answer(False))
        self.assertEqual((search.made, search.next_part(), search.found()), (1, [A, B], None))
        search.answer(True)
        self.assertEqual((search.made, search.next_part(), search.found()), (2, None, [[B]]))

    def test_nothing_to_do(self):
        for causes in [[], [[A]], [[A], [B]]]:
            search = Search(causes, [[C]])
            self.assertEqual((search.made, search.next_part(), search.found()), (0, None, causes))

    def test_searches_to_their_end(self):
        for seed in range(80):
            causes, tests = random_case(seed)
            best = depth(plan(causes, tests))
            counts = []
            for cause in causes:
                search, many = Search(causes, tests), 0
                while search.next_part() is not None:
                    self.assertIsNone(search.found())
                    self.assertIn(search.next_part(), tests)
                    search.answer(is_bad(search.next_part(), cause))
                    many += 1
                    self.assertEqual(search.made, many)
                found = search.found()
                self.assertIn(cause, found)
                for part in tests:
                    self.assertEqual(len({is_bad(part, one) for one in found}), 1)
                counts.append(many)
            self.assertEqual(max(counts, default=0), best)

    def test_what_is_told_is_not_kept(self):
        causes, tests = [[A], [B]], [[A]]
        search = Search(causes, tests)
        search.next_part().append(B)
        tests[0].append(B)
        causes[0].append(C)
        self.assertEqual(search.next_part(), [A])
        search.answer(True)
        search.found()[0].append(B)
        self.assertEqual(search.found(), [[A]])

    def test_a_fault(self):
        # The fault shows when the line of BOB is cut and the file of DAN is there: two patches together.
        causes = causes_between({}, WHOLE, 2)
        search = Search(causes, parts_between({}, WHOLE))
        while search.next_part() is not None:
            part = search.next_part()
            search.answer(EVE in part and DAN in part)
        self.assertEqual(search.found(), [[DAN, EVE]])
        self.assertEqual(slow_needs(THREE), [ANN, BOB])


if __name__ == "__main__":
    unittest.main()
