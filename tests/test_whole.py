"""What the document promises over the whole program, by drawn worlds: points 44, 82, 85 and 112."""

import random
import unittest

from build import closed, slow_needs
from quiltward.archives import Archive
from quiltward.bundles import make_bundle, take_bundle
from quiltward.errors import NeededError, PatchError
from quiltward.labels import is_below
from quiltward.low import compare, is_secret
from quiltward.projecting import carry, projected
from quiltward.reclassing import copy_of
from quiltward.sessions import Session
from quiltward.sets import closure, dependents, is_set, order_of, order_right, set_of, union, with_patch, without
from quiltward.wires import End
from quiltward.worlds import World
from test_low import drawn
from work import HANDS, HIGH, LOW, MID, RULES, SIDE, TOP, all_ids, busy_world, random_step, state

CLEARANCES = [LOW, MID, HIGH, SIDE, TOP]
ALL_DEEDS = {"put", "drop", "record", "move", "back", "revert", "update", "status", "paths", "log", "show", "whence",
             "differ", "reclass"}
SECRET_DEEDS = {"put", "drop", "move", "back", "show", "whence", "differ"}


def world_on(repo, hands):
    """A world with sessions that work in a repository."""
    world = World([], [])
    world.repo = repo
    world.sessions = {one: Session(repo, one, clearance) for one, clearance in hands}
    return world


class ComparisonsTest(unittest.TestCase):
    def test_no_comparison_is_different(self):
        ends, hidden, open_ones = {}, set(), set()
        for seed in range(1000, 1120):
            rng = random.Random(seed)
            clearance = CLEARANCES[seed % len(CLEARANCES)]
            pair, rows = drawn(rng, clearance, 30)
            for one, deed in rows[0] + rows[1]:
                (hidden if is_secret(pair[0], clearance, one, deed) else open_ones).add(deed[0])
            told = compare(pair, clearance, rows)
            ends.setdefault(told[0], []).append(told[1])
        self.assertEqual(set(ends), {"same", "unfair"})
        self.assertGreater(len(ends["same"]), 60)
        self.assertGreater(sum(ends["same"]), 600)
        self.assertEqual(hidden, SECRET_DEEDS)
        self.assertEqual(open_ones, ALL_DEEDS)


class ProjectionsTest(unittest.TestCase):
    def test_work_in_a_projection(self):
        words, carried, papers = set(), 0, 0
        for seed in range(120):
            rng = random.Random(seed)
            whole, clearance = busy_world(rng, 50).repo, CLEARANCES[seed % len(CLEARANCES)]
            was, part = copy_of(whole), projected(whole, clearance)
            one, other = world_on(whole, [("pat", clearance)]), world_on(part, [("pat", clearance)])
            ids = all_ids(whole)
            for _ in range(40):
                deed = random_step(rng, ids)[1]
                answer = one.perform("pat", deed)
                self.assertEqual(other.perform("pat", deed), answer)
                mine, theirs = one.sessions["pat"], other.sessions["pat"]
                self.assertEqual((mine.edits, mine.base), (theirs.edits, theirs.base))
                words.add(deed[0])
                papers += answer[0] == "paper" and bool(answer[1])
                ids = ids + [new for _, new in answer[1] if new] if answer[0] == "recorded" else ids
            self.assertEqual(state(projected(whole, clearance)), state(part))
            carried += len(carry(part, was))
            self.assertEqual(state(was)[1], state(whole)[1])
            if was.rules == whole.rules:
                self.assertEqual(state(was), state(whole))
        self.assertEqual(words, ALL_DEEDS)
        self.assertGreater(carried, 60)
        self.assertGreater(papers, 5)

    def test_projecting_twice_and_restoring(self):
        for seed in range(25):
            world, archive = busy_world(random.Random(seed), 60), Archive()
            archive.save(world.repo)
            for one in CLEARANCES:
                part = projected(world.repo, one)
                self.assertEqual(state(archive.restore(world.repo.rules, one))[1], state(part)[1])
                for other in CLEARANCES:
                    if is_below(other, one):
                        self.assertEqual(state(projected(part, other)), state(projected(world.repo, other)))


class WiresTest(unittest.TestCase):
    def test_two_worlds_on_wires(self):
        sent = 0
        for seed in range(30):
            rng = random.Random(seed)
            worlds = [World(RULES, [(one + "x"[:k], clearance) for one, clearance in HANDS]) for k in range(2)]
            ends = [{at: End(at, {}) for at in CLEARANCES} for _ in worlds]
            under_way = []
            for _ in range(60):
                k, at = rng.randrange(2), rng.choice(CLEARANCES)
                one, deed = random_step(rng, all_ids(worlds[k].repo))
                worlds[k].perform(one + "x"[:k], deed)
                self.level(worlds[k], ends[k])
                under_way.append((1 - k, ends[k][at].message()))
                for _ in range(rng.randint(0, 2)):
                    to, message = under_way[rng.randrange(len(under_way))]
                    ends[to][message[0]].receive(message)
                    self.level(worlds[to], ends[to])
            for at in CLEARANCES:
                one, other = ends[0][at], ends[1][at]
                self.assertLessEqual(set(one.known()), set(other.patches))
                self.assertLessEqual(set(other.known()), set(one.patches))
                whole = union(one.patches, other.patches)
                for _ in range(2):
                    messages = one.message(), other.message()
                    sent += len(messages[0][2]) + len(messages[1][2])
                    other.receive(messages[0])
                    one.receive(messages[1])
                    self.assertEqual((one.patches, other.patches), (whole, whole))
                self.assertEqual((one.message()[2], other.message()[2], one.waiting(), other.waiting()), ([], [], [], []))
                # What is sent at a label tells of this label alone.
                self.assertTrue(all(row[0] == at for row in whole))
        self.assertGreater(sent, 200)

    def level(self, world, ends):
        """Let the spaces of a world and its ends have the same patches."""
        for at, end in ends.items():
            space = world.repo.space(at)
            for one in order_of(space):
                if one not in end.patches:
                    end.add(space[one])
            for one in order_of(end.patches):
                if one not in space:
                    world.repo.put(end.patches[one])


class SetsTest(unittest.TestCase):
    def spaces(self):
        """The spaces of drawn worlds."""
        for seed in range(40):
            world = busy_world(random.Random(seed), 120)
            for at, patches in world.repo.spaces.items():
                yield random.Random(seed), at, patches

    def test_sets(self):
        many, needed = 0, 0
        for rng, at, patches in self.spaces():
            self.assertTrue(is_set(patches))
            many += len(patches)
            # In any order in which each one fits, the same set comes out.
            left, row = list(patches.values()), []
            while left:
                fitting = [one for one in left if not set(slow_needs(one)) & {other[1] for other in left}]
                row.append(rng.choice(fitting))
                left.remove(row[-1])
            self.assertEqual(set_of(row), patches)
            self.assertTrue(order_right(patches, [one[1] for one in row]))
            self.assertTrue(order_right(patches, order_of(patches)))
            for one in patches:
                behind = [other for other in sorted(patches)
                          if other != one and any(two[1] == one for two in closed(list(patches.values()), [other]))]
                self.assertEqual(dependents(patches, one), behind)
                needed += bool(behind)
                if behind:
                    with self.assertRaises(NeededError) as caught:
                        without(patches, one)
                    self.assertEqual(caught.exception.ids, behind)
                    continue
                rest = without(patches, one)
                self.assertTrue(is_set(rest))
                self.assertEqual(with_patch(rest, patches[one]), patches)
                with self.assertRaises(PatchError):
                    with_patch(patches, patches[one])
            ids = rng.sample(sorted(patches), rng.randint(0, len(patches)))
            part = closure(patches, ids)
            self.assertTrue(is_set(part))
            self.assertEqual(sorted(part), sorted(one[1] for one in closed(list(patches.values()), ids)))
            self.assertEqual(take_bundle(without_ids(patches, part), make_bundle(at, patches, sorted(patches))), patches)
        self.assertGreater(many, 500)
        self.assertGreater(needed, 100)


def without_ids(patches, part):
    """The greatest part of a set that is a set and has none of the patches of a part that nothing else needs."""
    gone = {one for one in part if not any(one in slow_needs(patches[other]) for other in patches)}
    return {one: patches[one] for one in patches if one not in gone}


if __name__ == "__main__":
    unittest.main()
