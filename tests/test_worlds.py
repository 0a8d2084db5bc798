"""Points 75, 78 and 79: worlds, with the deed "reclass"."""

import copy
import random
import unittest

from build import PUBLIC, label, name, patch, random_rows, start
from quiltward.paths import label_of
from quiltward.reclassing import may_reclass, turned_paths
from quiltward.repos import Repo
from quiltward.sessions import Session
from quiltward.worlds import MOST_RULES, World
from work import (HANDS, HIGH, LOW, MID, PREFIXES, RULES, SIDE, TOP, WORK_PATHS, all_ids, busy_world, random_step, state,
                  world_state)

A, B, M, S = ("a",), ("b",), ("m",), ("s",)
OK = ("ok",)


def no(reason):
    return ("refused", reason)


class WorldTest(unittest.TestCase):
    def test_a_new_world(self):
        world = World(RULES, HANDS)
        self.assertIsInstance(world.repo, Repo)
        self.assertEqual(state(world.repo), (RULES, {}, []))
        self.assertEqual(sorted(world.sessions), ["cid", "dan", "fay", "gus"])
        for one, clearance in HANDS:
            session = world.sessions[one]
            self.assertIsInstance(session, Session)
            self.assertIs(session.repo, world.repo)
            self.assertEqual((session.name, session.clearance, session.edits, session.base), (one, clearance, {}, {}))
        self.assertEqual(World([], []).sessions, {})
        self.assertEqual(MOST_RULES, 32)

    def test_each_deed(self):
        world = World(RULES, HANDS)
        cid = (HIGH, "cid", 1), (LOW, "cid", 1), (LOW, "cid", 2), (LOW, "cid", 3)
        low, moved = (cid[1], 0, 0), (cid[2], 0, 0)
        rows = [("cid", ("put", S, ["s"]), OK), ("cid", ("put", A, ["x", "y"]), OK), ("cid", ("put", B, []), OK),
                ("cid", ("drop", B), OK), ("cid", ("drop", M), no("none")),
                ("cid", ("status",), ("status", [(A, "added"), (S, "added")])),
                ("cid", ("differ", A), ("differ", [("put", 0), ("put", 1)])),
                ("cid", ("record", "n"), ("recorded", [(LOW, cid[1]), (HIGH, cid[0])])),
                ("dan", ("paths",), ("paths", [])), ("dan", ("update",), ("updated", [])),
                ("dan", ("paths",), ("paths", [(A, 1)])), ("cid", ("paths",), ("paths", [(A, 1), (S, 1)])),
                ("cid", ("show", A), ("shown", [[((cid[1], 1, 0), "x")], [((cid[1], 1, 1), "y")]])),
                ("cid", ("whence", A), ("whence", [((cid[1], 1, k), ("there", [(cid[1], 1)])) for k in (0, 1)])),
                ("dan", ("show", S), no("denied")),
                ("cid", ("move", A, B, "m"), ("recorded", [(LOW, cid[2])])), ("cid", ("move", A, S, ""), no("label")),
                ("cid", ("back", cid[2], "b"), ("recorded", [(LOW, cid[3])])), ("dan", ("back", cid[0], ""), no("denied")),
                ("cid", ("log",), ("log", [(cid[1], "n"), (cid[2], "m"), (cid[3], "b"), (cid[0], "n")])),
                ("cid", ("put", A, ["x"]), OK), ("cid", ("revert",), OK), ("cid", ("status",), ("status", []))]
        for one, deed, want in rows:
            self.assertEqual(world.perform(one, deed), want, (one, deed))
        self.assertEqual(world.repo.spaces[LOW][cid[2]][2], [("move", low, B, [low])])
        self.assertNotEqual(moved, low)

    def test_deeds_are_those_of_sessions(self):
        for seed in range(15):
            rng = random.Random(seed)
            world, repo = World(RULES, HANDS), Repo(RULES)
            sessions = {one: Session(repo, one, clearance) for one, clearance in HANDS}
            for _ in range(40):
                one, deed = random_step(rng, all_ids(repo))
                if deed[0] != "reclass":
                    self.assertEqual(world.perform(one, deed), sessions[one].perform(deed))
            self.assertEqual(state(world.repo), state(repo))


class ReclassTest(unittest.TestCase):
    def setUp(self):
        self.world = World(RULES, HANDS)

    def do(self, one, *deed):
        return self.world.perform(one, deed)

    def refused(self, one, prefix, new, reason):
        before = copy.deepcopy(world_state(self.world))
        self.assertEqual(self.do(one, "reclass", prefix, new), no(reason))
        self.assertEqual(world_state(self.world), before)

    def test_denied(self):
        self.do("dan", "put", A, ["x"])
        # The new label, the label of the prefix, and that of a rule whose prefix begins with the prefix.
        self.refused("dan", A, HIGH, "denied")
        self.refused("dan", ("s", "q"), LOW, "denied")
        self.refused("dan", S, LOW, "denied")
        self.refused("cid", (), LOW, "denied")
        self.refused("fay", M, LOW, "denied")
        self.assertEqual(self.do("dan", "reclass", A, MID), ("paper", []))
        self.assertEqual(self.do("gus", "reclass", (), MID), ("paper", []))

    def test_size(self):
        self.world = World(RULES + [(("q",), LOW)] * 27, HANDS)
        self.assertEqual(self.do("cid", "reclass", ("z",), LOW), ("paper", []))
        self.assertEqual(len(self.world.repo.rules), 32)
        self.refused("cid", ("z",), LOW, "size")
        self.refused("gus", (), HIGH, "size")
        self.refused("cid", ("x",), LOW, "denied")
        self.refused("fay", ("z",), MID, "denied")

    def test_the_bound_of_the_size(self):
        for many, want in [(30, ("paper", [])), (31, ("paper", [])), (32, no("size"))]:
            world = World([(("q",), LOW)] * many, HANDS)
            self.assertEqual(world.perform("fay", ("reclass", A, LOW)), want)
            self.assertEqual(len(world.repo.rules), min(many + 1, 32))

    def test_the_paper(self):
        for path, texts in [(("s", "1"), ["p", "q"]), (S, ["top"]), (A, ["low"]), (("s", "low"), ["l"])]:
            self.do("cid", "put", path, texts)
        self.do("cid", "record", "n")
        want = [(S, HIGH, MID, ["top"]), (("s", "1"), HIGH, MID, ["p", "q"])]
        self.assertEqual(turned_paths(self.world.repo, RULES + [(S, MID)]), want)
        self.assertEqual(self.do("cid", "reclass", S, MID), ("paper", want))
        self.assertEqual(self.world.repo.rules, RULES + [(S, MID)])
        self.assertEqual(self.world.repo.papers, [("cid", (S, MID), want)])
        # The session's own name has the patches, which no base has before it is updated.
        notes = [(one, row[3]) for one, row in sorted(self.world.repo.spaces[MID].items())]
        self.assertEqual(notes, [((MID, "cid", 1), "reclass"), ((MID, "cid", 2), "reclass")])
        self.assertEqual(self.do("cid", "paths"), ("paths", [(A, 1), (("s", "low"), 1)]))
        self.assertEqual(self.do("dan", "update"), ("updated", []))
        self.assertEqual([text for block in self.do("dan", "show", S)[1] for _, text in block], ["top"])

    def test_edits_are_forgotten(self):
        edits = {A: ["a"], ("a", "b"): ["ab"], B: ["b"], M: ["m"], ("m", "1"): None, ("s", "low"): ["l"], S: ["s"]}
        for one in ["cid", "gus"]:
            self.world.sessions[one].edits = dict(edits)
        self.world.sessions["fay"].edits = {A: ["f"], B: ["f"]}
        self.do("cid", "reclass", ("a",), MID)
        left = {path: edits[path] for path in edits if path[0] != "a"}
        self.assertEqual([self.world.sessions[one].edits for one in ["cid", "dan", "fay", "gus"]],
                         [left, {}, {B: ["f"]}, left])
        # A path whose label stays as it was keeps its edits, whatever rule counts for it.
        self.do("cid", "reclass", ("m", "1"), MID)
        self.assertEqual(self.world.sessions["cid"].edits, left)
        self.do("cid", "reclass", ("m",), LOW)
        self.assertEqual(self.world.sessions["cid"].edits, {path: left[path] for path in left if path != M})
        # A refused one forgets nothing.
        self.do("dan", "reclass", S, LOW)
        self.assertIn(S, self.world.sessions["gus"].edits)

    def test_bases_stay_as_they_are(self):
        self.do("cid", "put", S, ["old"])
        self.do("cid", "record", "n")
        bases = copy.deepcopy({one: who.base for one, who in self.world.sessions.items()})
        self.do("cid", "reclass", S, LOW)
        self.assertEqual({one: who.base for one, who in self.world.sessions.items()}, bases)
        self.assertEqual(self.do("cid", "show", S), no("none"))
        # With its elder label, the path is shown as the base has it, although the file was taken from it.
        self.do("cid", "reclass", S, HIGH)
        self.assertEqual([text for block in self.do("cid", "show", S)[1] for _, text in block], ["old"])
        self.do("cid", "update")
        self.assertEqual([text for block in self.do("cid", "show", S)[1] for _, text in block], ["old"])
        self.assertEqual(len(self.do("cid", "whence", S)[1]), 1)

    def test_random_worlds(self):
        words, forgotten = set(), 0
        for seed in range(40):
            rng = random.Random(seed)
            world = busy_world(rng, 30)
            for _ in range(8):
                world.perform(*random_step(rng, all_ids(world.repo)))
                one, clearance = rng.choice(HANDS)
                prefix, new = rng.choice(PREFIXES), rng.choice([LOW, MID, HIGH, SIDE])
                rules = list(world.repo.rules)
                may, paper = may_reclass(rules, clearance, prefix, new), turned_paths(world.repo, rules + [(prefix, new)])
                edits = {who: dict(session.edits) for who, session in world.sessions.items()}
                bases = {who: dict(session.base) for who, session in world.sessions.items()}
                answer = world.perform(one, ("reclass", prefix, new))
                self.assertEqual(answer, ("paper", paper) if may else no("denied"))
                words.add((answer[0], bool(paper)))
                for who, session in world.sessions.items():
                    self.assertEqual(session.base, bases[who])
                    kept = {path: edits[who][path] for path in edits[who]
                            if label_of(rules, path) == label_of(world.repo.rules, path)}
                    self.assertEqual(session.edits, kept)
                    forgotten += len(edits[who]) - len(kept)
        self.assertEqual(words, {("paper", True), ("paper", False), ("refused", True), ("refused", False)})
        self.assertGreater(forgotten, 20)

    def test_patches_of_others(self):
        for row in random_rows(5, 4, HIGH) + [start("x", one=name("oli", 1, TOP), path=("t",))]:
            self.world.repo.put(row)
        self.assertEqual(self.do("cid", "log"), ("log", []))
        self.do("cid", "update")
        self.assertEqual(len(self.do("cid", "log")[1]), 4)
        self.assertEqual([self.world.sessions["dan"].base, WORK_PATHS[0], PUBLIC, SIDE], [{}, A, LOW, label(2, 1)])
        self.world.repo.put(patch((LOW, "cid", 5), ("add", A)))
        self.do("cid", "put", A, ["x"])
        self.assertEqual(self.do("cid", "record", ""), ("recorded", [(LOW, (LOW, "cid", 6))]))


if __name__ == "__main__":
    unittest.main()
