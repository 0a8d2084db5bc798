"""Points 134, 135 and 136: versions."""

import itertools
import random
import unittest

from build import ANN, BOB, EVE, FILE, closed, name, patch, random_rows, slow_needs, start
from quiltward.blocks import shown
from quiltward.graphs import file_graph
from quiltward.sets import is_set, set_of
from quiltward.trees import tree
from quiltward.versions import (changed_paths, common_tops, is_version, joined_tops, steps_from, steps_right, tops,
                                version_of)

ONE = start("x", "y")
TWO = patch(BOB, ("lines", FILE, [(ANN, 1, 0)], [], ["b"]))
THREE = patch(EVE, ("cut", FILE, [(BOB, 0, 0)]))
FOUR = patch(name("eve", 2), ("back", EVE))
LONE = patch(name("dan", 1), ("add", ("z",)))
DAN, LAST = name("dan", 1), name("eve", 2)
WHOLE = set_of([ONE, TWO, THREE, FOUR, LONE])


def random_version(rng, rows):
    """The ids of a random version."""
    return [row[1] for row in closed(rows, rng.sample([row[1] for row in rows], rng.randint(0, min(5, len(rows)))))]


class TopsTest(unittest.TestCase):
    def test_is_version(self):
        for ids, want in [([], True), ([ANN], True), ([BOB], False), ([BOB, ANN], True), ([DAN], True), ([DAN, BOB], False),
                          ([EVE, ANN, BOB], True), ([LAST, ANN, BOB], False), ([ANN, BOB, EVE, LAST, DAN], True)]:
            self.assertIs(is_version(WHOLE, ids), want, ids)

    def test_tops(self):
        for ids, want in [([], []), ([ANN], [ANN]), ([BOB, ANN], [BOB]), ([DAN, ANN], [ANN, DAN]), ([LAST, BOB, EVE, ANN], [LAST]),
                          ([EVE, DAN, ANN, BOB], [DAN, EVE])]:
            self.assertEqual(tops(WHOLE, ids), want)
            self.assertEqual(version_of(WHOLE, want), sorted(ids))

    def test_version_of(self):
        for ids, want in [([], []), ([BOB], [ANN, BOB]), ([LAST, DAN], [ANN, BOB, DAN, EVE, LAST]), ([BOB, ANN, BOB], [ANN, BOB])]:
            self.assertEqual(version_of(WHOLE, ids), want)

    def test_joined_and_common(self):
        for one, other, joined, common in [([], [], [], []), ([BOB], [], [BOB], []), ([BOB], [DAN], [BOB, DAN], []),
                                           ([EVE], [BOB], [EVE], [BOB]), ([DAN, EVE], [BOB, DAN], [DAN, EVE], [BOB, DAN]),
                                           ([LAST], [ANN, DAN], [DAN, LAST], [ANN])]:
            for first, second in [(one, other), (other, one)]:
                self.assertEqual(joined_tops(WHOLE, first, second), joined)
                self.assertEqual(common_tops(WHOLE, first, second), common)

    def test_every_version(self):
        for seed in range(6):
            rows = random_rows(seed, 7)
            whole, seen = set_of(rows), set()
            for many in range(len(rows) + 1):
                for ids in itertools.combinations(sorted(whole), many):
                    part = is_set({one: whole[one] for one in ids})
                    self.assertIs(is_version(whole, list(ids)[::-1]), part)
                    if part:
                        told = tops(whole, list(ids)[::-1])
                        self.assertEqual(version_of(whole, told), list(ids))
                        seen.add(tuple(told))
                        needed = {other for one in ids for other in slow_needs(whole[one])}
                        self.assertEqual(told, [one for one in ids if one not in needed])
                    # Ids of which none needs another one are the tops of one version.
                    free = all(not set(version_of(whole, [one])) & set(ids) - {one} for one in ids)
                    self.assertIs(tops(whole, version_of(whole, list(ids))) == list(ids), free)

    def test_random_versions(self):
        for seed in range(40):
            rng = random.Random(seed)
            rows = random_rows(seed, 10)
            whole = set_of(rows)
            one, other = random_version(rng, rows), random_version(rng, rows)
            both, shared = sorted(set(one) | set(other)), sorted(set(one) & set(other))
            self.assertTrue(is_version(whole, both) and is_version(whole, shared))
            self.assertEqual(joined_tops(whole, tops(whole, one), tops(whole, other)), tops(whole, both))
            self.assertEqual(common_tops(whole, tops(whole, one), tops(whole, other)), tops(whole, shared))


def slow_steps(whole, one, other):
    """The steps of point 135, for lists of all ids."""
    def out(ids, others):
        left, order = set(ids) - set(others), []
        while left:
            order.append(max(two for two in left if not any(two in slow_needs(whole[more]) for more in left)))
            left.remove(order[-1])
        return order
    return [("out", two) for two in out(one, other)] + [("in", two) for two in reversed(out(other, one))]


class StepsTest(unittest.TestCase):
    def test_steps(self):
        self.assertEqual(steps_from(WHOLE, [], []), [])
        self.assertEqual(steps_from(WHOLE, [LAST], [LAST]), [])
        self.assertEqual(steps_from(WHOLE, [], [LAST]), [("in", ANN), ("in", BOB), ("in", EVE), ("in", LAST)])
        self.assertEqual(steps_from(WHOLE, [LAST], []), [("out", LAST), ("out", EVE), ("out", BOB), ("out", ANN)])
        self.assertEqual(steps_from(WHOLE, [DAN, EVE], [BOB]), [("out", EVE), ("out", DAN)])
        self.assertEqual(steps_from(WHOLE, [BOB], [DAN, EVE]), [("in", DAN), ("in", EVE)])
        self.assertEqual(steps_from(WHOLE, [DAN], [BOB]), [("out", DAN), ("in", ANN), ("in", BOB)])
        self.assertEqual(steps_from(WHOLE, [BOB], [DAN]), [("out", BOB), ("out", ANN), ("in", DAN)])

    def test_an_id_that_needs_a_greater_one(self):
        zed = patch(name("zed", 1), ("add", ("z",)))
        whole = set_of([zed, patch(ANN, ("back", zed[1])), patch(BOB, ("add", ("b",)))])
        self.assertEqual(steps_from(whole, [ANN, BOB], []), [("out", BOB), ("out", ANN), ("out", zed[1])])
        self.assertEqual(steps_from(whole, [], [ANN, BOB]), [("in", zed[1]), ("in", ANN), ("in", BOB)])
        self.assertEqual(steps_from(whole, [BOB, zed[1]], []), [("out", zed[1]), ("out", BOB)])

    def test_random_steps(self):
        for seed in range(60):
            rng = random.Random(seed)
            rows = random_rows(seed, 10)
            whole = set_of(rows)
            one, other = random_version(rng, rows), random_version(rng, rows)
            steps = steps_from(whole, tops(whole, one), tops(whole, other))
            self.assertEqual(steps, slow_steps(whole, one, other))
            self.assertEqual(len(steps), len(set(one) ^ set(other)))
            version = set(one)
            for word, two in steps:
                (version.add if word == "in" else version.remove)(two)
                self.assertTrue(is_version(whole, sorted(version)))
            self.assertEqual(version, set(other))
            self.check_right(rng, whole, tops(whole, one), tops(whole, other), steps)

    def check_right(self, rng, whole, one, other, steps):
        self.assertIs(steps_right(whole, one, other, steps), True)
        self.assertIs(steps_right(whole, one, other, steps + [("in", name("zed", 1))]), False)
        self.assertIs(steps_right(whole, one, other, steps + [("out", name("zed", 1))]), False)
        for at, (word, two) in enumerate(steps):
            for wrong in [steps[:at] + steps[at + 1:], steps[:at] + steps[at:at + 1] + steps[at:],
                          steps[:at] + [("in" if word == "out" else "out", two)] + steps[at + 1:],
                          steps[:at] + [("on", two)] + steps[at + 1:], steps[:at] + [(word, name("zed", 1))] + steps[at + 1:]]:
                self.assertIs(steps_right(whole, one, other, wrong), False)
        # In any order in which each step leads to a version.
        mixed = rng.sample(steps, len(steps))
        version, fine = set(version_of(whole, one)), True
        for word, two in mixed:
            (version.add if word == "in" else version.remove)(two)
            fine = fine and is_version(whole, sorted(version))
        self.assertIs(steps_right(whole, one, other, mixed), fine)

    def test_more_steps_than_needed(self):
        steps = steps_from(WHOLE, [BOB], [LAST])
        self.assertEqual(steps, [("in", EVE), ("in", LAST)])
        self.assertIs(steps_right(WHOLE, [BOB], [LAST], steps), True)
        self.assertIs(steps_right(WHOLE, [BOB], [LAST], [("in", DAN), ("out", DAN)] + steps), False)
        self.assertIs(steps_right(WHOLE, [BOB], [LAST], steps[::-1]), False)
        self.assertIs(steps_right(WHOLE, [BOB], [BOB], []), True)
        self.assertIs(steps_right(WHOLE, [BOB], [BOB, DAN], []), False)
        self.assertIs(steps_right(WHOLE, [BOB], [BOB, DAN], [("in", EVE)]), False)
        self.assertIs(steps_right(WHOLE, [BOB], [ANN], [("out", ANN)]), False)
        self.assertIs(steps_right(WHOLE, [BOB], [ANN], [("out", BOB)]), True)


class ChangedTest(unittest.TestCase):
    def test_nothing(self):
        self.assertEqual(changed_paths(WHOLE, [], []), [])
        self.assertEqual(changed_paths(WHOLE, [LAST], [LAST]), [])

    def test_files(self):
        z = (DAN, 0, 0)
        self.assertEqual(changed_paths(WHOLE, [], [DAN]), [(("z",), [], [(z, [])])])
        self.assertEqual(changed_paths(WHOLE, [ANN, DAN], [ANN]), [(("z",), [(z, [])], [])])
        told = changed_paths(WHOLE, [DAN], [ANN])
        self.assertEqual([path for path, _, _ in told], [("a",), ("z",)])

    def test_lines(self):
        one, two = [((ANN, 1, 0), "x")], [((ANN, 1, 1), "y")]
        self.assertEqual(changed_paths(WHOLE, [ANN], [BOB]), [(("a",), [(FILE, [one, two])],
                         [(FILE, [one, [((ANN, 1, 1), "y"), ((BOB, 0, 0), "b")]])])])
        # What was cut shows what it showed before.
        self.assertEqual(changed_paths(WHOLE, [ANN], [EVE]), [])
        self.assertEqual(len(changed_paths(WHOLE, [EVE], [LAST])), 1)

    def test_names(self):
        rows = [ONE, patch(BOB, ("move", FILE, ("b",), [FILE])), patch(EVE, ("move", FILE, ("c",), [FILE]))]
        whole, items = set_of(rows), shown(file_graph(set_of(rows), FILE))
        self.assertEqual(changed_paths(whole, [ANN], [BOB]), [(("a",), [(FILE, items)], []), (("b",), [], [(FILE, items)])])
        self.assertEqual(changed_paths(whole, [BOB], [BOB, EVE]), [(("c",), [], [(FILE, items)])])
        # The same path by another name of the file is no difference.
        rows = [ONE, patch(BOB, ("move", FILE, ("a",), [FILE]))]
        self.assertEqual(changed_paths(set_of(rows), [ANN], [BOB]), [])

    def test_conflicts(self):
        rows = [ONE, TWO, patch(EVE, ("order", FILE, (BOB, 0, 0), (ANN, 1, 1)))]
        told = changed_paths(set_of(rows), [BOB], [EVE])
        self.assertEqual([[len(block) for block in items] for row in told for _, items in row[1] + row[2]], [[1, 2], [1, 1, 1]])

    def test_several_files_with_one_path(self):
        rows = [ONE, start("x", one=BOB), start("b", one=EVE, path=("b",))]
        told = changed_paths(set_of(rows), [ANN, EVE], [ANN, BOB])
        self.assertEqual([(path, len(one), len(other)) for path, one, other in told], [(("a",), 1, 2), (("b",), 1, 0)])
        self.assertEqual([file for file, _ in told[0][2]], [FILE, (BOB, 0, 0)])
        self.assertEqual(changed_paths(set_of(rows[::-1]), [ANN, BOB], [ANN, BOB]), [])

    def test_random_versions(self):
        for seed in range(40):
            rng = random.Random(seed)
            rows = random_rows(seed, 10)
            whole = set_of(rows)
            ids = random_version(rng, rows), random_version(rng, rows)
            parts = [{one: whole[one] for one in row} for row in ids]
            at = [{path: [(file, shown(file_graph(part, file))) for file in files] for path, files in tree(part)}
                  for part in parts]
            want = [(path, at[0].get(path, []), at[1].get(path, [])) for path in sorted(set(at[0]) | set(at[1]))
                    if at[0].get(path) != at[1].get(path)]
            self.assertEqual(changed_paths(whole, *[tops(whole, row) for row in ids]), want)


if __name__ == "__main__":
    unittest.main()
