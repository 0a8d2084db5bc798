"""Points 83, 84 and 85: two worlds."""

import copy
import random
import unittest

from build import label, name, patch, start
from quiltward.labels import is_below
from quiltward.low import alike, compare, is_secret, view
from quiltward.paths import label_of
from quiltward.projecting import projected
from quiltward.reclassing import copy_of, reclass
from quiltward.repos import Repo
from quiltward.worlds import World
from work import (HANDS, HIGH, LOW, MID, RULES, SIDE, TOP, all_ids, busy_world, random_step, repo_of, state, world_state)

A, B, M, S, X = ("a",), ("b",), ("m",), ("s",), ("x",)
CLEARANCES = [LOW, MID, HIGH, SIDE, TOP, label(1)]


def worlds(*rows):
    """Two worlds in which some pairs of a name and a deed were performed."""
    pair = World(RULES, HANDS), World(RULES, HANDS)
    for world in pair:
        for one, deed in rows:
            world.perform(one, deed)
    return pair


class ViewTest(unittest.TestCase):
    def test_view(self):
        rows = [start("l"), start("m", one=name("bob", 1, MID), path=M), start("s", one=name("bob", 1, HIGH), path=S)]
        repo = repo_of(RULES, *rows)
        repo.papers = [("cid", (A, MID), [(A, LOW, MID, ["a"]), (S, HIGH, MID, ["s"])])]
        self.assertEqual(view(repo, LOW), (RULES, {LOW: repo.spaces[LOW]}, [("cid", (A, MID), [(A, LOW, MID, None)])]))
        self.assertEqual(view(repo, HIGH), (RULES, repo.spaces, repo.papers))
        self.assertEqual(view(Repo([]), LOW), ([], {}, []))

    def test_random_views(self):
        for seed in range(10):
            repo = busy_world(random.Random(seed), 60).repo
            for clearance in CLEARANCES:
                told = view(repo, clearance)
                self.assertIsInstance(told, tuple)
                self.assertEqual(told, state(projected(repo, clearance)))


class AlikeTest(unittest.TestCase):
    def test_spaces(self):
        low, high = start("x"), start("s", one=name("bob", 1, HIGH), path=S)
        one, other = repo_of(RULES, low), repo_of(RULES, low, high)
        for clearance, want in [(LOW, True), (MID, True), (HIGH, False), (TOP, False), (SIDE, True)]:
            self.assertIs(alike(one, other, clearance), want)
            self.assertIs(alike(other, one, clearance), want)
        self.assertFalse(alike(repo_of(RULES, start("x")), repo_of(RULES, start("y")), LOW))
        self.assertTrue(alike(one, one, TOP))

    def test_an_empty_space(self):
        one, other = repo_of(RULES, start("x")), repo_of(RULES, start("x"))
        one.spaces[MID] = {}
        self.assertTrue(alike(one, other, MID))

    def test_rules(self):
        self.assertFalse(alike(Repo(RULES), Repo(RULES[1:]), LOW))
        self.assertFalse(alike(Repo(RULES), Repo(RULES + [(X, HIGH)]), LOW))
        self.assertTrue(alike(Repo([]), Repo([]), LOW))

    def test_papers(self):
        one, other = Repo(RULES), Repo(RULES)
        one.papers, other.papers = [("cid", (S, MID), [(S, HIGH, MID, ["s"])])], [("cid", (S, MID), [(S, HIGH, MID, ["t"])])]
        for clearance, want in [(LOW, True), (MID, False), (HIGH, False), (SIDE, True)]:
            self.assertIs(alike(one, other, clearance), want)
        other.papers = [("dan", (S, MID), [(S, HIGH, MID, ["s"])])]
        self.assertFalse(alike(one, other, LOW))
        other.papers = []
        self.assertFalse(alike(one, other, LOW))


class SecretTest(unittest.TestCase):
    def test_deeds_with_a_path(self):
        world = World(RULES, HANDS)
        for deed in [("put", S, []), ("drop", S), ("move", S, A, ""), ("move", S, S, ""), ("show", S), ("differ", S),
                     ("whence", S)]:
            for clearance, want in [(LOW, True), (MID, True), (SIDE, True), (HIGH, False), (TOP, False)]:
                for who, _ in HANDS:
                    self.assertIs(is_secret(world, clearance, who, deed), want, (deed, clearance))
        for deed in [("put", A, []), ("drop", A), ("move", A, S, ""), ("show", A), ("differ", A), ("whence", A)]:
            self.assertIs(is_secret(world, LOW, "gus", deed), False, deed)

    def test_back(self):
        world = World(RULES, HANDS)
        for clearance, want in [(LOW, True), (MID, False), (HIGH, False), (SIDE, True)]:
            self.assertIs(is_secret(world, clearance, "cid", ("back", (MID, "cid", 1), "")), want)

    def test_deeds_that_are_never_secret(self):
        world = World(RULES, HANDS)
        for deed in [("record", ""), ("revert",), ("update",), ("status",), ("paths",), ("log",), ("reclass", S, LOW),
                     ("reclass", S, HIGH)]:
            self.assertIs(is_secret(world, LOW, "gus", deed), False, deed)

    def test_the_rules_of_the_world_count(self):
        world = World(RULES, HANDS)
        self.assertIs(is_secret(world, LOW, "cid", ("show", S)), True)
        world.perform("cid", ("reclass", S, LOW))
        self.assertIs(is_secret(world, LOW, "cid", ("show", S)), False)
        world.perform("cid", ("reclass", A, MID))
        self.assertIs(is_secret(world, LOW, "cid", ("show", A)), True)


class CompareTest(unittest.TestCase):
    PUT, REC, UP, SHOW = ("cid", ("put", A, ["x"])), ("cid", ("record", "")), ("fay", ("update",)), ("fay", ("show", A))

    def told(self, one, other, clearance=LOW, pair=None):
        return compare(pair or worlds(), clearance, (one, other))

    def test_nothing_to_do(self):
        self.assertEqual(self.told([], []), ("same", 0))

    def test_same_deeds(self):
        row = [self.PUT, self.REC, self.UP, self.SHOW]
        self.assertEqual(self.told(row, row), ("same", 2))
        self.assertEqual(self.told(row, row, HIGH), ("same", 4))
        self.assertEqual(self.told(row, row, MID), ("same", 2))
        self.assertEqual(self.told(row, row, SIDE), ("same", 2))

    def test_secret_deeds(self):
        hush = [("cid", ("put", S, ["s"])), ("cid", ("show", S)), ("dan", ("put", S, [])), ("gus", ("drop", X)),
                ("cid", ("back", (HIGH, "cid", 1), "")), ("cid", ("move", S, A, ""))]
        row = [self.PUT, self.REC, self.UP, self.SHOW]
        long = hush[:2] + row[:1] + hush[2:] + row[1:3] + hush[:1] + row[3:] + hush
        for one, other in [(long, row), (row, long), (long, long), (hush, []), ([], hush), (row + hush, row), (hush[:1], hush)]:
            self.assertEqual(self.told(one, other), ("same", 2 if len(one) > 6 or len(other) > 6 else 0))
        # To those who dominate them, they are deeds like others.
        self.assertEqual(self.told(long, row, HIGH), ("unfair", 0))
        self.assertEqual(self.told(row + hush, row, HIGH), ("unfair", 4))

    def test_a_list_at_its_end(self):
        row = [self.PUT, self.REC, self.UP]
        self.assertEqual(self.told(row, row[:2]), ("unfair", 0))
        self.assertEqual(self.told(row[:2], row), ("unfair", 0))
        self.assertEqual(self.told(row + [self.SHOW], row), ("unfair", 1))
        self.assertEqual(self.told([], row), ("unfair", 0))

    def test_pairs_that_are_not_the_same(self):
        row = [self.UP, self.UP]
        for other in [("dan", ("update",)), ("fay", ("status",)), ("fay", ("show", B))]:
            self.assertEqual(self.told(row + [self.UP], row + [other]), ("unfair", 2))
        self.assertEqual(self.told([self.UP, self.PUT], [self.UP, ("cid", ("put", A, ["y"]))]), ("unfair", 1))

    def test_repositories_that_are_not_alike(self):
        pair = worlds()
        pair[1].repo.put(start("x", one=name("oli", 1, MID), path=M))
        row = [self.UP, self.UP]
        self.assertEqual(self.told(row, row, LOW, pair), ("same", 2))
        # This is looked at before the next pairs, also if there are none.
        self.assertEqual(self.told(row, row, MID, pair), ("unfair", 0))
        self.assertEqual(self.told([], [], MID, pair), ("unfair", 0))
        self.assertEqual(self.told([], row, MID, pair), ("unfair", 0))

    def test_secret_deeds_come_before_that(self):
        pair = worlds()
        pair[0].perform("cid", ("put", A, ["x"]))
        self.assertEqual(self.told([self.REC], [self.REC], LOW, pair), ("unfair", 0))
        self.assertEqual(self.told([self.REC], [self.REC], HIGH, pair), ("different", 1))

    def test_clearances_that_are_not_dominated(self):
        pair = worlds(("cid", ("put", S, ["s"])), ("cid", ("record", "")))
        row = [("cid", ("paths",)), ("dan", ("paths",)), ("fay", ("paths",)), ("gus", ("paths",))]
        for clearance, many in [(LOW, 1), (MID, 2), (SIDE, 1), (HIGH, 3), (TOP, 4)]:
            self.assertEqual(self.told(row, row, clearance, pair), ("same", many))
        # What a higher session is told may differ.
        pair[1].perform("cid", ("put", S, ["t"]))
        row = [("cid", ("status",)), ("fay", ("status",))]
        self.assertEqual(self.told(row, row, LOW, pair), ("same", 1))
        self.assertEqual(self.told(row, row, HIGH, pair), ("different", 1))

    def test_different(self):
        pair = worlds()
        pair[0].sessions["fay"].edits = {A: ["x"]}
        row = [self.UP, ("fay", ("status",)), self.UP]
        self.assertEqual(self.told(row[1:], row[1:], LOW, pair), ("different", 1))
        self.assertEqual(self.told(row, row, LOW, pair), ("different", 1))
        pair[1].sessions["fay"].edits = {A: ["y"]}
        self.assertEqual(self.told(row, row, LOW, pair), ("same", 3))

    def test_a_reclassification_that_releases_something_else(self):
        pair = worlds()
        turn = [("cid", ("record", "")), ("cid", ("reclass", S, LOW)), ("fay", ("update",)), ("fay", ("show", S))]
        one, other = [("cid", ("put", S, ["s"]))] + turn, [("cid", ("put", S, ["t"]))] + turn
        for clearance in [LOW, MID, SIDE]:
            self.assertEqual(self.told(one, other, clearance, pair), ("unfair", 0))
        self.assertEqual(self.told(one, one, LOW, pair), ("same", 2))
        # One that releases nothing is none of this.
        other = [("cid", ("put", S, ["t"])), ("cid", ("record", "")), ("cid", ("reclass", S, HIGH)), ("fay", ("update",))]
        self.assertEqual(self.told(other, other[1:], LOW, pair), ("same", 1))

    def test_a_deed_that_is_secret_no_more(self):
        turn = ("cid", ("reclass", S, LOW))
        hush = ("cid", ("show", S))
        self.assertEqual(self.told([turn, hush], [turn]), ("unfair", 0))
        self.assertEqual(self.told([hush, turn], [turn]), ("same", 0))
        self.assertEqual(self.told([turn, hush], [hush, turn, hush]), ("same", 0))

    def test_the_worlds_stay_as_they_are(self):
        rng = random.Random(3)
        pair = busy_world(rng, 40), busy_world(rng, 40)
        before = copy.deepcopy([world_state(world) for world in pair])
        row = [random_step(rng, all_ids(pair[0].repo)) for _ in range(40)]
        for clearance in CLEARANCES:
            compare((pair[0], pair[0]), clearance, (row, row))
            compare(pair, clearance, (row, row))
        self.assertEqual([world_state(world) for world in pair], before)
        self.assertEqual(compare((pair[0], pair[0]), TOP, (row, row)), ("same", 40))


def drawn(rng, clearance, many):
    """Two worlds that are alike for a clearance, and two lists of pairs that differ in secret deeds alone."""
    common = busy_world(rng, 15).repo
    pair = [World(common.rules, HANDS) for _ in range(2)]
    for world in pair:
        for row in copy_of(common).spaces.values():
            for one in row.values():
                if is_below(one[1][0], clearance):
                    world.repo.spaces.setdefault(one[1][0], {})[one[1]] = one
        # What stands at other labels is something else in each world.
        for at in [one for one in [LOW, MID, HIGH, SIDE, TOP] if not is_below(one, clearance)]:
            for k in range(rng.randint(0, 2)):
                world.repo.put(start(*rng.sample(["p", "q", "r"], 2), one=name("oli", k + 1, at), path=rng.choice([S, M, X])))
        for session in world.sessions.values():
            session.take_over([])
    start_of = [copy.deepcopy(world) for world in pair]
    rows, ids = [[], []], all_ids(pair[0].repo) + all_ids(pair[1].repo)
    for _ in range(many):
        for world, row in zip(pair, rows):
            for _ in range(rng.randint(0, 3)):
                step = random_step(rng, ids)
                if is_secret(world, clearance, *step):
                    row.append(step)
                    world.perform(*step)
        step = random_step(rng, ids)
        if pair[0].repo.rules == pair[1].repo.rules and not is_secret(pair[0], clearance, *step):
            for world, row in zip(pair, rows):
                row.append(step)
                world.perform(*step)
            ids = all_ids(pair[0].repo) + all_ids(pair[1].repo)
    return start_of, rows


def slow_compare(pair, clearance, rows):
    """A comparison, as point 84 says it."""
    pair, left, many = [copy.deepcopy(world) for world in pair], [list(row) for row in rows], 0
    while True:
        for world, row in zip(pair, left):
            while row and row[0][1][0] in ("put", "drop", "move", "show", "differ", "whence", "back"):
                word, what = row[0][1][:2]
                at = what[0] if word == "back" else label_of(world.repo.rules, what)
                if is_below(at, clearance):
                    break
                world.perform(*row.pop(0))
        parts = [state(projected(world.repo, clearance)) for world in pair]
        if parts[0] != parts[1]:
            return "unfair", many
        if left == [[], []]:
            return "same", many
        if left[0][:1] != left[1][:1]:
            return "unfair", many
        who = left[0][0][0]
        answers = [world.perform(*row.pop(0)) for world, row in zip(pair, left)]
        if is_below(pair[0].sessions[who].clearance, clearance):
            many += 1
            if answers[0] != answers[1]:
                return "different", many


class DrawnTest(unittest.TestCase):
    def test_no_comparison_is_different(self):
        ends = {}
        for seed in range(240):
            rng = random.Random(seed)
            clearance = CLEARANCES[seed % len(CLEARANCES)]
            pair, rows = drawn(rng, clearance, 25)
            told = compare(pair, clearance, rows)
            self.assertEqual(told, slow_compare(pair, clearance, rows))
            self.assertNotEqual(told[0], "different")
            self.assertEqual(compare(pair[::-1], clearance, rows[::-1]), told)
            ends.setdefault(told[0], []).append(told[1])
        self.assertGreater(len(ends["same"]), 100)
        self.assertGreater(len(ends["unfair"]), 5)
        self.assertGreater(sum(ends["same"]), 1000)

    def test_any_lists(self):
        for seed in range(30):
            rng = random.Random(seed)
            pair = busy_world(rng, 30), busy_world(rng, 3)
            rows = [[random_step(rng, all_ids(pair[0].repo)) for _ in range(rng.randint(0, 6))] for _ in range(2)]
            rows = rng.choice([rows, [rows[0], rows[0]], [rows[0], rows[0][1:]]])
            for clearance in CLEARANCES:
                one = rng.choice([pair, (pair[0], pair[0])])
                self.assertEqual(compare(one, clearance, rows), slow_compare(one, clearance, rows))

    def test_papers_that_are_told(self):
        repo = repo_of(RULES, start("s", one=name("bob", 1, HIGH), path=S))
        other = copy_of(repo)
        reclass(repo, "cid", S, LOW)
        self.assertFalse(alike(repo, other, LOW))
        reclass(other, "cid", S, LOW)
        self.assertTrue(alike(repo, other, TOP))
        other.put(patch(name("oli", 1, TOP), ("add", ("t",))))
        self.assertFalse(alike(repo, other, TOP))


if __name__ == "__main__":
    unittest.main()
