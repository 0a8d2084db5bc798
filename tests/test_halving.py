"""Points 167, 168 and 169: halves."""

import itertools
import random
import unittest

from build import ANN, BOB, EVE, FILE, name, patch, slow_needs, start
from queues import ALWAYS, NEVER, plain, random_case, slow_train, without_paths
from quiltward.checks import is_right
from quiltward.halving import halved, halves_right
from quiltward.sets import is_set, set_of


def slow_halved(patches, main, queue, check):
    """Halves, as point 167 says it."""
    line, verdicts, tests = [sorted(main)], {}, []

    def bring(ids, wrong):
        left = []
        for one in ids:
            lacked = [other for other in slow_needs(patches[one]) if other not in line[-1] and other not in left]
            if lacked:
                verdicts[one] = ("needs", lacked)
            else:
                left.append(one)
        if not left:
            return False
        version = sorted(line[-1] + left)
        right = False
        if not wrong or left != ids:
            right = is_right(patches, version, check)
            tests.append((version, right))
        if right:
            line.append(version)
            verdicts.update((one, ("in",)) for one in left)
            return True
        if len(left) == 1:
            verdicts[left[0]] = ("fails",)
            return False
        half = -(-len(left) // 2)
        bring(left[half:], bring(left[:half], False))
        return False

    bring(queue, False)
    return [(one, verdicts[one]) for one in queue], line, tests


def told_in(line, report):
    """The ids that came in, by the main line and by the report."""
    return sorted(line[-1]), sorted(line[0] + [one for one, verdict in report if verdict == ("in",)])


class HalvedTest(unittest.TestCase):
    def halves(self, many, bad):
        """The numbers of the verdicts that fail, of the versions, and of the tests, for a queue with bad places."""
        patches, ids = plain(many)
        report, line, tests = halved(patches, [], ids, without_paths(ids, [ids[k] for k in bad]))
        self.assertEqual(report, [(one, ("fails",) if k in bad else ("in",)) for k, one in enumerate(ids)])
        number = {one: k for k, one in enumerate(ids)}
        return ([[number[one] for one in version] for version in line],
                [([number[one] for one in version], right) for version, right in tests])

    def test_all_are_right(self):
        for many in range(1, 12):
            whole = list(range(many))
            self.assertEqual(self.halves(many, []), ([[], whole], [(whole, True)]))

    def test_an_empty_queue(self):
        patches, ids = plain(2)
        self.assertEqual(halved(patches, ids[::-1], [], NEVER), ([], [ids], []))
        self.assertEqual(halved({}, [], [], ALWAYS), ([], [[]], []))

    def test_one_id(self):
        self.assertEqual(self.halves(1, [0]), ([[]], [([0], False)]))

    def test_odd_lengths(self):
        # The first half has one more; where it came in, the second half is known to be wrong.
        self.assertEqual(self.halves(3, [2]), ([[], [0, 1]], [([0, 1, 2], False), ([0, 1], True)]))
        self.assertEqual(self.halves(3, [0]), ([[], [1], [1, 2]], [([0, 1, 2], False), ([0, 1], False), ([0], False),
                                                                   ([1], True), ([1, 2], True)]))
        self.assertEqual(self.halves(5, [4]), ([[], [0, 1, 2], [0, 1, 2, 3]],
                                               [([0, 1, 2, 3, 4], False), ([0, 1, 2], True), ([0, 1, 2, 3], True)]))

    def test_even_lengths(self):
        self.assertEqual(self.halves(2, [1]), ([[], [0]], [([0, 1], False), ([0], True)]))
        self.assertEqual(self.halves(2, [0]), ([[], [1]], [([0, 1], False), ([0], False), ([1], True)]))
        self.assertEqual(self.halves(4, [3]), ([[], [0, 1], [0, 1, 2]],
                                               [([0, 1, 2, 3], False), ([0, 1], True), ([0, 1, 2], True)]))
        self.assertEqual(self.halves(4, [1, 2]), ([[], [0], [0, 3]],
                                                  [([0, 1, 2, 3], False), ([0, 1], False), ([0], True),
                                                   ([0, 2, 3], False), ([0, 2], False), ([0, 3], True)]))

    def test_nothing_is_right(self):
        for many in range(1, 10):
            patches, ids = plain(many)
            report, line, tests = halved(patches, [], ids, NEVER)
            self.assertEqual((report, line, len(tests)), ([(one, ("fails",)) for one in ids], [[]], 2 * many - 1))

    def test_a_second_half_that_is_known_to_be_wrong_is_not_tested(self):
        patches, ids = plain(8)
        tests = halved(patches, [], ids, without_paths(ids, [ids[6]]))[2]
        self.assertEqual([(len(version), right) for version, right in tests],
                         [(8, False), (4, True), (6, True), (7, False), (7, True)])

    def test_ids_left_out_at_the_beginning(self):
        rows = [start("x"), patch(BOB, ("cut", FILE, [(ANN, 1, 0)])), patch(EVE, ("back", BOB)), start(one=name("dan", 1))]
        patches = set_of(rows)
        self.assertEqual(halved(patches, [], [BOB, EVE], ALWAYS),
                         ([(BOB, ("needs", [ANN])), (EVE, ("needs", [BOB]))], [[]], []))
        self.assertEqual(halved(patches, [], [BOB, name("dan", 1), EVE, ANN], ALWAYS),
                         ([(BOB, ("needs", [ANN])), (name("dan", 1), ("in",)), (EVE, ("needs", [BOB])), (ANN, ("in",))],
                          [[], [ANN, name("dan", 1)]], [([ANN, name("dan", 1)], True)]))
        # Unlike in a train, what stands before it in the list is there.
        self.assertEqual(halved(patches, [], [ANN, BOB, EVE], ALWAYS)[1], [[], [ANN, BOB, EVE]])

    def test_ids_left_out_of_a_second_half(self):
        one, two, three, four = [name("ann", k) for k in range(1, 5)]
        rows = [start("bad", one=one), start(one=two, path=("b",)), patch(three, ("cut", (one, 0, 0), [(one, 1, 0)])),
                patch(four, ("back", two))]
        patches, check = set_of(rows), ("not", ("file", ("a",)))
        report, line, tests = halved(patches, [], [one, two, three, four], check)
        self.assertEqual(report, [(one, ("fails",)), (two, ("in",)), (three, ("needs", [one])), (four, ("in",))])
        self.assertEqual(line, [[], [two], [two, four]])
        self.assertEqual(tests, [([one, two, three, four], False), ([one, two], False), ([one], False), ([two], True),
                                 ([two, four], True)])

    def test_random_queues(self):
        deep = 0
        for seed in range(250):
            patches, main, queue, check = random_case(seed)
            told = halved(patches, main, queue, check)
            self.assertIsInstance(told, tuple)
            self.assertEqual(told, slow_halved(patches, main, queue, check))
            report, line, tests = told
            deep += len(line) > 3
            self.assertEqual(*told_in(line, report))
            for version, right in tests:
                self.assertTrue(is_set({one: patches[one] for one in version}))
                self.assertIs(is_right(patches, version, check), right)
            for version in line[1:]:
                self.assertIn((version, True), tests)
            for one, verdict in report:
                if verdict == ("fails",):
                    self.assertTrue(any((sorted(version + [one]), False) in tests for version in line))
            if queue:
                self.assertLessEqual(len(tests), 2 * len(queue) - 1)
            self.assertIs(halves_right(patches, main, check, line, tests), True)
        self.assertGreater(deep, 5)

    def test_local_checks(self):
        for many, seed in itertools.product(range(1, 17), range(3)):
            rng = random.Random(seed)
            patches, ids = plain(many)
            bad = rng.sample(ids, rng.randint(0, min(many, 5)))
            check = without_paths(ids, bad)
            queue = rng.sample(ids, many)
            report, line, tests = halved(patches, [], queue, check)
            self.assertEqual(report, slow_train(patches, [], queue, check)[0])
            depth = (many - 1).bit_length()
            self.assertLessEqual(len(tests), 1 + 2 * len(bad) * depth if bad else 1)


class RightTest(unittest.TestCase):
    def setUp(self):
        self.patches, self.ids = plain(4)
        self.check = without_paths(self.ids, self.ids[1:3])
        _, self.line, self.tests = halved(self.patches, [], self.ids, self.check)

    def right(self, line, tests, main=()):
        return halves_right(self.patches, list(main), self.check, line, tests)

    def test_as_it_is(self):
        a, _, _, d = self.ids
        self.assertEqual(self.line, [[], [a], [a, d]])
        self.assertIs(self.right(self.line, self.tests), True)

    def test_another_order(self):
        for tests in itertools.islice(itertools.permutations(self.tests), 50):
            self.assertIs(self.right(self.line, list(tests)), True)

    def test_tests_left_out(self):
        for at, (version, _) in enumerate(self.tests):
            self.assertIs(self.right(self.line, self.tests[:at] + self.tests[at + 1:]), version not in self.line)
        self.assertIs(self.right(self.line, []), False)

    def test_tests_put_in(self):
        a, b, c, d = self.ids
        for more in [([d], True), ([b], False), ([], True), ([a, d], True), ([a], True)]:
            self.assertIs(self.right(self.line, self.tests + [more]), True)
            self.assertIs(self.right(self.line, [more] + self.tests), True)
            self.assertIs(self.right(self.line, self.tests + [(more[0], not more[1])]), False)

    def test_tests_turned(self):
        for at, (version, right) in enumerate(self.tests):
            self.assertIs(self.right(self.line, self.tests[:at] + [(version, not right)] + self.tests[at + 1:]), False)

    def test_lines_that_are_not_as_told(self):
        a, b, c, d = self.ids
        for line in [[], [[a], [a, d]], [[], [a], [a, b]], [[], [a], [d]], [[], [a], [a, d], [a]], [[], [d]],
                     [[], [a], [a, d], self.ids], [[a, d]], [[], [a], []]]:
            self.assertIs(self.right(line, self.tests), False, line)
        for line in [[[]], [[], [a]], [[], [a, d]], [[], [a], [a], [a, d]]]:
            self.assertIs(self.right(line, self.tests), True, line)
        # A version is one with all ids of the one before it, wherever it comes from.
        self.assertIs(self.right([[], [d], [a, d]], self.tests + [([d], True)]), True)
        self.assertIs(self.right([[], [a], [d]], self.tests + [([d], True)]), False)

    def test_the_main_version(self):
        a, b, c, d = self.ids
        self.assertIs(self.right([[a], [a, d]], self.tests, [a]), True)
        self.assertIs(self.right([[a, b]], [], [b, a]), True)
        self.assertIs(self.right([[a], [a, d]], self.tests, [d]), False)
        self.assertIs(self.right([[a]], self.tests, []), False)
        self.assertIs(self.right([[]], self.tests, [a]), False)

    def test_no_tests(self):
        self.assertIs(self.right([[]], []), True)
        self.assertIs(self.right([[], []], []), False)
        self.assertIs(self.right([[], []], [([], True)]), True)


if __name__ == "__main__":
    unittest.main()
