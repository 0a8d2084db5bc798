"""Points 114 and 115: archives."""

import copy
import random
import unittest

from build import PUBLIC, label, name, random_rows, start
from quiltward.archives import Archive
from quiltward.labels import is_below
from quiltward.repos import Repo
from quiltward.sets import is_set, order_of
from quiltward.tapes import read_records

LOW, MID, TOP, SIDE = PUBLIC, label(1, 2), label(3, 0, 2), label(0, 5)
ALL = label(7, 0, 1, 2, 3, 4, 5)
RULES = [(("a",), MID), (("b",), TOP)]


def crash_all(archive, many):
    for tape in archive.tapes.values():
        tape.crash((many, many))


class ArchiveTest(unittest.TestCase):
    def test_a_new_one(self):
        archive = Archive()
        self.assertEqual(archive.tapes, {})
        self.assertEqual(archive.save(Repo(RULES)), [])
        self.assertEqual(archive.tapes, {})
        repo = archive.restore(RULES, ALL)
        self.assertEqual((repo.rules, repo.spaces, repo.papers), (RULES, {}, []))

    def test_saving_puts_what_is_new(self):
        repo, archive = Repo(RULES), Archive()
        rows = {at: random_rows(3, 6, at) for at in [TOP, LOW, SIDE]}
        for at in rows:
            for row in rows[at][:4]:
                repo.put(row)
        before = copy.deepcopy((repo.rules, repo.spaces))
        self.assertEqual(archive.save(repo), [(LOW, 4), (SIDE, 4), (TOP, 4)])
        self.assertEqual((repo.rules, repo.spaces), before)
        self.assertEqual(sorted(archive.tapes), sorted([LOW, SIDE, TOP]))
        self.assertEqual(archive.save(repo), [])
        repo.put(rows[TOP][4])
        repo.put(rows[TOP][5])
        repo.put(rows[LOW][4])
        self.assertEqual(archive.save(repo), [(LOW, 1), (TOP, 2)])
        self.assertEqual(archive.restore(RULES, ALL).spaces, repo.spaces)

    def test_patches_are_put_in_the_order_of_the_space(self):
        repo, archive = Repo([]), Archive()
        for number in [5, 3, 9]:
            repo.put(start(one=name("dan", number)))
        for row in random_rows(8, 8):
            repo.put(row)
        archive.save(repo)
        texts = [text for kind, text in read_records(archive.tapes[PUBLIC].areas[0].data)[0] if kind == 2]
        ids = [f"patch 0.{hand}.{number}" for _, hand, number in order_of(repo.space(PUBLIC))]
        self.assertEqual([text.split("\n")[1] for text in texts], ids)
        self.assertTrue(all(text.startswith("put\n") for text in texts))

    def test_patches_are_never_taken_out(self):
        repo, archive = Repo([]), Archive()
        repo.put(start())
        archive.save(repo)
        self.assertEqual(archive.save(Repo([])), [])
        less = Repo([])
        less.put(start(one=name("bob", 1)))
        self.assertEqual(archive.save(less), [(PUBLIC, 1)])
        self.assertEqual(sorted(archive.restore([], PUBLIC).spaces[PUBLIC]), [name("ann", 1), name("bob", 1)])

    def test_restoring_by_clearances(self):
        repo, archive = Repo(RULES), Archive()
        labels = [LOW, MID, TOP, SIDE, label(7)]
        for at in labels:
            for row in random_rows(at[1], 5, at):
                repo.put(row)
        archive.save(repo)
        for clearance in labels + [ALL, label(3, 0, 5), label(1, 0, 1, 2)]:
            restored = archive.restore(RULES, clearance)
            self.assertEqual(restored.spaces, {at: repo.space(at) for at in labels if is_below(at, clearance)})
            self.assertEqual((restored.rules, restored.papers), (RULES, []))
        self.assertEqual(archive.restore([], LOW).rules, [])

    def test_empty_spaces_are_left_out(self):
        repo, archive = Repo([]), Archive()
        repo.put(start())
        archive.save(repo)
        repo.spaces[TOP] = {}
        self.assertEqual(archive.save(repo), [])
        self.assertIn(TOP, archive.tapes)
        self.assertEqual(archive.restore([], ALL).spaces, {LOW: repo.space(LOW)})

    def test_a_saving_is_synced(self):
        repo, archive = Repo([]), Archive()
        for at in [LOW, TOP]:
            repo.put(start("x", one=name("ann", 1, at)))
        archive.save(repo)
        crash_all(archive, 0)
        self.assertEqual(archive.restore([], ALL).spaces, repo.spaces)

    def test_restoring_recovers_all_tapes(self):
        repo, archive = Repo([]), Archive()
        for at in [LOW, TOP]:
            repo.put(start("x", one=name("ann", 1, at)))
        archive.save(repo)
        for tape in archive.tapes.values():
            tape.append("put")
        crash_all(archive, 3)
        archive.restore([], LOW)
        for tape in archive.tapes.values():
            area = tape.areas[tape.used]
            self.assertEqual(read_records(area.data)[1], len(area.data))
            self.assertEqual(area.safe, len(area.data))

    def test_crashes_between_savings(self):
        for seed in range(20):
            rng = random.Random(seed)
            labels = [LOW, MID, TOP]
            rows = {at: random_rows(seed + at[1], 12, at) for at in labels}
            repo, archive, saved = Repo(RULES), Archive(), {}
            for _ in range(6):
                for at in labels:
                    for row in rows[at][len(repo.space(at)):][:rng.randint(0, 3)]:
                        repo.put(row)
                archive.save(repo)
                saved = {at: repo.space(at) for at in repo.labels()}
                if rng.random() < 0.6:
                    crash_all(archive, rng.randint(0, 99))
                    repo = archive.restore(RULES, ALL)
                    self.assertEqual(repo.spaces, saved)

    def test_a_crash_within_a_saving(self):
        """The sync of a saving is lost at some labels: there, any beginning of what was put is left."""
        repo, archive = Repo([]), Archive()
        rows = random_rows(11, 8)
        for row in rows[:4]:
            repo.put(row)
        archive.save(repo)
        before, safe = repo.space(LOW), archive.tapes[LOW].areas[0].safe
        for row in rows[4:]:
            repo.put(row)
        archive.save(repo)
        found = []
        for many in range(len(archive.tapes[LOW].areas[0].data) - safe + 1):
            copied = copy.deepcopy(archive)
            copied.tapes[LOW].areas[0].safe = safe
            copied.tapes[LOW].crash((many, 0))
            space = copied.restore([], LOW).space(LOW)
            self.assertTrue(is_set(space))
            self.assertTrue(set(before) <= set(space) <= set(repo.space(LOW)))
            found.append(len(space))
            if many in (0, 200):
                self.assertEqual(copied.save(repo), [(LOW, 8 - len(space))])
                self.assertEqual(copied.restore([], LOW).spaces, repo.spaces)
        self.assertEqual(sorted(set(found)), [4, 5, 6, 7, 8])

    def test_saving_behind_a_crash_without_restoring(self):
        repo, archive = Repo([]), Archive()
        repo.put(start())
        archive.save(repo)
        archive.tapes[LOW].append("put")
        crash_all(archive, 2)
        repo.put(start(one=name("bob", 1)))
        self.assertEqual(archive.save(repo), [(LOW, 1)])
        self.assertEqual(archive.restore([], LOW).spaces, repo.spaces)

    def test_a_restored_repository_is_another_one(self):
        repo, archive = Repo([]), Archive()
        repo.put(start())
        archive.save(repo)
        restored = archive.restore([], LOW)
        restored.put(start(one=name("bob", 1)))
        restored.rules.append(((), TOP))
        self.assertEqual(len(repo.space(LOW)), 1)
        self.assertEqual(len(archive.restore([], LOW).space(LOW)), 1)


if __name__ == "__main__":
    unittest.main()
