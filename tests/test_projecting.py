"""Points 81 and 82: projections, and carrying them."""

import copy
import random
import unittest

from build import ANN, label, name, patch, random_rows, start
from quiltward.errors import ClashError
from quiltward.labels import common, is_below, sorted_labels
from quiltward.paths import label_of
from quiltward.projecting import carry, projected
from quiltward.reclassing import copy_of, reclass
from quiltward.repos import Repo
from quiltward.sessions import Session
from work import HIGH, LOW, MID, RULES, SIDE, all_ids, busy_repo, outside_patch, random_deed, repo_of, state

A, S = ("a",), ("s",)
CLEARANCES = [LOW, MID, HIGH, SIDE, label(7, 0, 1, 2), label(1), label(2, 2)]


def many_papers(rng):
    """A repository with papers."""
    repo = busy_repo(rng)
    for _ in range(rng.randint(1, 3)):
        reclass(repo, "zed", rng.choice([(), A, S, ("m",), ("x",)]), rng.choice([LOW, MID, HIGH, SIDE]))
    return repo


class ProjectedTest(unittest.TestCase):
    def test_labels(self):
        rows = [start("l"), start("m", one=name("bob", 1, MID), path=("m",)), start("s", one=name("bob", 1, HIGH), path=S),
                start("x", one=name("bob", 1, SIDE), path=("x",))]
        repo = repo_of(RULES, *rows)
        for clearance, labels in [(LOW, [LOW]), (MID, [LOW, MID]), (HIGH, [LOW, MID, HIGH]), (SIDE, [LOW, SIDE]),
                                  (label(7), [LOW]), (label(7, 0, 1, 2), [LOW, MID, SIDE, HIGH])]:
            other = projected(repo, clearance)
            self.assertIsInstance(other, Repo)
            self.assertEqual(other.labels(), labels)
            self.assertEqual(state(other), (RULES, {at: repo.spaces[at] for at in labels}, []))

    def test_papers(self):
        both, one, new, none = (A, LOW, MID, ["a"]), (("b",), MID, HIGH, ["b"]), (S, HIGH, MID, ["s"]), (("x",), HIGH, SIDE, ["x"])
        repo = Repo(RULES)
        repo.papers = [("cid", (A, MID), [both, one, new, none]), ("dan", ((), SIDE), [none])]
        self.assertEqual(projected(repo, MID).papers,
                         [("cid", (A, MID), [both, (("b",), MID, HIGH, None), new]), ("dan", ((), SIDE), [])])
        self.assertEqual(projected(repo, LOW).papers, [("cid", (A, MID), [(A, LOW, MID, None)]), ("dan", ((), SIDE), [])])
        self.assertEqual(projected(repo, SIDE).papers[0][2], [(A, LOW, MID, None), none])
        self.assertEqual(projected(repo, HIGH).papers[0][2], [both, one, new, (("x",), HIGH, SIDE, None)])
        self.assertEqual(projected(repo, label(7, 0, 1, 2)).papers, repo.papers)

    def test_nothing(self):
        self.assertEqual(state(projected(Repo([]), HIGH)), ([], {}, []))

    def test_projecting_twice(self):
        for seed in range(25):
            repo = many_papers(random.Random(seed))
            for one in CLEARANCES:
                for other in CLEARANCES:
                    if is_below(other, one):
                        self.assertEqual(state(projected(projected(repo, one), other)), state(projected(repo, other)))
                    both = common(one, other)
                    self.assertEqual(state(projected(projected(repo, both), one)), state(projected(repo, both)))

    def test_the_repository_stays_as_it_is(self):
        for seed in range(10):
            repo = many_papers(random.Random(seed))
            kept = copy.deepcopy(state(repo))
            for clearance in CLEARANCES:
                other = projected(repo, clearance)
                reclass(other, "yak", (), LOW)
                other.rules.append((A, LOW))
                for _, _, paper in other.papers:
                    for item in paper:
                        if item[3] is not None:
                            item[3].append("more")
                    paper.clear()
                self.assertEqual(state(repo), kept)


class CarryTest(unittest.TestCase):
    def test_carry(self):
        one, other = Repo(RULES), Repo([])
        rows = random_rows(3, 6, MID) + random_rows(4, 3, LOW) + random_rows(5, 2, HIGH)
        for row in rows:
            one.put(row)
        for row in random_rows(3, 6, MID)[:2] + random_rows(5, 2, HIGH):
            other.put(row)
        other.papers = [("cid", (A, LOW), [])]
        kept = copy.deepcopy(state(one))
        self.assertEqual(carry(one, other), [(LOW, 3), (MID, 4)])
        self.assertEqual(state(other), ([], state(one)[1], [("cid", (A, LOW), [])]))
        self.assertEqual(state(one), kept)
        self.assertEqual(carry(one, other), [])
        self.assertEqual(carry(other, one), [])
        self.assertEqual(carry(one, one), [])

    def test_what_the_other_one_has_stays(self):
        one, other = repo_of([], start("x")), repo_of([], start("y", one=name("bob", 1)), start("z", one=name("bob", 1, MID)))
        self.assertEqual(carry(one, other), [(LOW, 1)])
        self.assertEqual(all_ids(other), [ANN, name("bob", 1), name("bob", 1, MID)])
        self.assertEqual(all_ids(one), [ANN])

    def test_nothing_to_carry(self):
        one, other = Repo([]), repo_of([], start("x"))
        one.spaces[MID] = {}
        self.assertEqual(carry(one, other), [])
        self.assertEqual(state(other)[1], {LOW: {ANN: start("x")}})
        self.assertEqual(carry(other, one), [(LOW, 1)])

    def test_spaces_are_not_shared(self):
        one, other = repo_of([], start("x")), Repo([])
        carry(one, other)
        other.put(patch(name("bob", 1), ("add", A)))
        self.assertEqual(all_ids(one), [ANN])
        one.put(patch(name("eve", 1), ("add", A)))
        self.assertEqual(all_ids(other), [ANN, name("bob", 1)])

    def test_repositories_that_clash(self):
        one = repo_of([], start("x"), start("new", one=name("bob", 1)), start("z", one=name("bob", 1, MID)))
        other = repo_of([], start("y"))
        kept = copy.deepcopy(state(other))
        with self.assertRaises(ClashError) as caught:
            carry(one, other)
        self.assertEqual((caught.exception.ids, state(other)), ([ANN], kept))


class SameAnswersTest(unittest.TestCase):
    def test_a_session_in_a_projection(self):
        words, carried = set(), 0
        for seed in range(80):
            rng = random.Random(seed)
            whole = many_papers(rng) if seed % 2 else busy_repo(rng)
            clearance = rng.choice(CLEARANCES)
            was, part = copy_of(whole), projected(whole, clearance)
            one, other = Session(whole, "gus", clearance), Session(part, "gus", clearance)
            ids = all_ids(whole)
            for _ in range(40):
                deed = random_deed(rng, ids)
                answer = one.perform(deed)
                self.assertEqual(other.perform(deed), answer)
                words.add((deed[0], answer[0]))
                self.assertEqual((one.edits, one.base), (other.edits, other.base))
            rows = carry(part, was)
            carried += len(rows)
            self.assertEqual([at for at, _ in rows], sorted_labels([at for at, _ in rows]))
            self.assertEqual(state(was), state(whole))
            self.assertEqual(carry(part, was), [])
        self.assertGreater(carried, 40)
        self.assertTrue({("record", "recorded"), ("move", "recorded"), ("back", "recorded"), ("show", "shown"),
                         ("whence", "whence"), ("differ", "differ"), ("put", "refused"), ("back", "refused")} <= words)

    def test_what_stands_at_other_labels_does_not_bear_on_a_session(self):
        for seed in range(40):
            rng = random.Random(seed)
            one, clearance = busy_repo(rng), rng.choice([LOW, MID, HIGH, SIDE])
            other = copy_of(one)
            sessions = Session(one, "gus", clearance), Session(other, "gus", clearance)
            for _ in range(30):
                at = rng.choice([row for row in [LOW, MID, HIGH, SIDE, label(7)] if not is_below(row, clearance)])
                outside_patch(rng, other, at, "oli")
                deed = random_deed(rng, all_ids(one))
                self.assertEqual(sessions[0].perform(deed), sessions[1].perform(deed))
            self.assertEqual(state(projected(one, clearance)), state(projected(other, clearance)))

    def test_rules_of_the_projection(self):
        repo = repo_of(RULES, start("x"))
        other = projected(repo, LOW)
        self.assertEqual(label_of(other.rules, S), HIGH)
        self.assertEqual(Session(other, "gus", LOW).perform(("put", S, [])), ("refused", "denied"))


if __name__ == "__main__":
    unittest.main()
