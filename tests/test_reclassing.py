"""Points 78, 79 and 80: reclassification."""

import copy
import random
import unittest

from build import ANN, BOB, EVE, FILE, PUBLIC, label, name, patch, random_rows, start
from quiltward.blocks import shown, shown_texts
from quiltward.graphs import file_graph
from quiltward.labels import is_below
from quiltward.paths import begins, label_of
from quiltward.reclassing import (copy_of, labels_under, may_reclass, paper_right, reclass, releases, turned_paths)
from quiltward.repos import Repo, files_at
from quiltward.sessions import Session
from quiltward.sets import is_set
from work import HIGH, LOW, MID, RULES, SIDE, WORK_PATHS, busy_repo, repo_of, state

A, B, M, S = ("a",), ("b",), ("m",), ("s",)
AB = ("a", "b")
X, Y = (ANN, 1, 0), (ANN, 1, 1)
TOP = label(7, 0, 1, 2, 3, 4, 5)


class MayTest(unittest.TestCase):
    def test_labels_under(self):
        self.assertEqual(labels_under([], A), [LOW])
        self.assertEqual(labels_under([], ()), [LOW])
        self.assertEqual(labels_under(RULES, ()), [LOW, MID, SIDE, HIGH])
        self.assertEqual(labels_under(RULES, S), [LOW, HIGH])
        self.assertEqual(labels_under(RULES, ("s", "q")), [HIGH])
        self.assertEqual(labels_under(RULES, ("s", "low")), [LOW])
        self.assertEqual(labels_under(RULES, ("s", "low", "x")), [LOW])
        self.assertEqual(labels_under(RULES, ("q",)), [LOW])

    def test_rules_that_do_not_count_any_more(self):
        rules = [(A, HIGH), (A, MID), (("a", "b"), SIDE), (("a", "b"), MID)]
        self.assertEqual(labels_under(rules, A), [MID, SIDE, HIGH])
        self.assertEqual(labels_under(rules, ("a", "b")), [MID, SIDE])
        # Of the prefix, taken as a path, the label alone counts.
        self.assertEqual(labels_under(rules, ("a", "c")), [MID])

    def test_may_reclass(self):
        for clearance, prefix, new, want in [(LOW, A, LOW, True), (LOW, A, MID, False), (MID, A, MID, True),
                                             (MID, S, LOW, False), (HIGH, S, LOW, True), (HIGH, S, SIDE, False),
                                             (HIGH, (), LOW, False), (label(3, 0, 1, 2), (), LOW, True),
                                             (LOW, ("s", "low"), LOW, True), (LOW, ("s", "low", "x"), LOW, True),
                                             (MID, ("s", "q"), LOW, False), (TOP, (), TOP, True), (SIDE, ("x",), MID, False)]:
            self.assertIs(may_reclass(RULES, clearance, prefix, new), want, (clearance, prefix, new))

    def test_random_rules(self):
        for seed in range(60):
            rng = random.Random(seed)
            labels = [LOW, MID, HIGH, SIDE, TOP]
            rules = [(rng.choice([(), A, AB, ("a", "b", "c"), B]), rng.choice(labels)) for _ in range(rng.randint(0, 5))]
            prefix = rng.choice([(), A, AB, ("a", "b", "c", "d"), B])
            under = [label_of(rules, prefix)] + [one for other, one in rules if other[:len(prefix)] == prefix]
            self.assertEqual(set(labels_under(rules, prefix)), set(under))
            for clearance in labels:
                for new in labels:
                    self.assertIs(may_reclass(rules, clearance, prefix, new), all(is_below(one, clearance) for one in under + [new]))

    def test_the_number_of_rules_does_not_bear_on_it(self):
        self.assertIs(may_reclass([(A, LOW)] * 32, LOW, A, LOW), True)


class TurnedTest(unittest.TestCase):
    def test_no_turned_path(self):
        repo = repo_of(RULES, start("x"))
        self.assertEqual(turned_paths(repo, RULES), [])
        self.assertEqual(turned_paths(repo, RULES + [(B, HIGH)]), [])
        self.assertEqual(turned_paths(repo, RULES + [(A, LOW)]), [])
        self.assertEqual(turned_paths(Repo([]), [((), HIGH)]), [])

    def test_turned_paths(self):
        repo = repo_of(RULES, start("x"), start("s", one=name("bob", 1, HIGH), path=S), start("y", one=BOB, path=AB),
                       start("m", one=name("eve", 1, MID), path=M), start("hidden", one=name("eve", 1, HIGH), path=B))
        self.assertEqual(turned_paths(repo, [((), SIDE)]),
                         [(A, LOW, SIDE, ["x"]), (AB, LOW, SIDE, ["y"]), (M, MID, SIDE, ["m"]), (S, HIGH, SIDE, ["s"])])
        self.assertEqual(turned_paths(repo, RULES + [(AB, MID)]), [(AB, LOW, MID, ["y"])])
        self.assertEqual(turned_paths(repo, []), [(M, MID, LOW, ["m"]), (S, HIGH, LOW, ["s"])])

    def test_the_paths_are_ascending_whatever_their_labels(self):
        rules = [(A, HIGH), (M, MID)]
        repo = repo_of(rules, start("m", one=name("bob", 1, MID), path=M), start("b", path=B), start("a", one=name("bob", 1, HIGH)))
        self.assertEqual(turned_paths(repo, [((), SIDE)]), [(A, HIGH, SIDE, ["a"]), (B, LOW, SIDE, ["b"]), (M, MID, SIDE, ["m"])])

    def test_texts_of_the_first_file_with_conflicts(self):
        repo = repo_of([], start("x", "y"), patch(BOB, ("lines", FILE, [X], [Y], ["b"])), patch(EVE, ("lines", FILE, [X], [Y], ["e"])),
                       start("other", one=name("zed", 1)))
        self.assertEqual(turned_paths(repo, [(A, MID)]), [(A, LOW, MID, ["x", "b", "e", "y"])])

    def test_a_file_without_lines(self):
        self.assertEqual(turned_paths(repo_of([], start()), [(A, MID)]), [(A, LOW, MID, [])])


class ReclassTest(unittest.TestCase):
    def test_one_path(self):
        repo = repo_of(RULES, start("x", "y"))
        paper = reclass(repo, "cid", A, MID)
        self.assertEqual(paper, [(A, LOW, MID, ["x", "y"])])
        one, two = name("cid", 1), name("cid", 1, MID)
        self.assertEqual(repo.space(LOW), {ANN: start("x", "y"),
                                           one: patch(one, ("drop", FILE, [FILE]), ("cut", FILE, [X, Y]), note="reclass")})
        self.assertEqual(repo.space(MID), {two: patch(two, ("add", A), ("lines", (two, 0, 0), [], [], ["x", "y"]), note="reclass")})
        self.assertEqual((repo.rules, repo.papers), (RULES + [(A, MID)], [("cid", (A, MID), paper)]))

    def test_no_turned_path(self):
        repo = repo_of(RULES, start("x"))
        self.assertEqual(reclass(repo, "cid", B, MID), [])
        self.assertEqual(state(repo), (RULES + [(B, MID)], {LOW: {ANN: start("x")}}, [("cid", (B, MID), [])]))
        self.assertEqual(reclass(repo, "dan", A, LOW), [])
        self.assertEqual([row[0] for row in repo.papers], ["cid", "dan"])

    def test_a_file_without_lines(self):
        repo = repo_of([], start())
        reclass(repo, "cid", A, MID)
        self.assertEqual(repo.space(LOW)[name("cid", 1)][2], [("drop", FILE, [FILE])])
        self.assertEqual(repo.space(MID)[name("cid", 1, MID)][2], [("add", A)])

    def test_several_paths_in_order(self):
        repo = repo_of([(M, MID)], start("x", path=B), start("y", one=BOB, path=A), start("m", one=name("bob", 5, MID), path=M),
                       start("z", one=name("cid", 4)))
        paper = reclass(repo, "cid", (), HIGH)
        # The rule of the prefix m is longer.
        self.assertEqual(paper, [(A, LOW, HIGH, ["y"]), (B, LOW, HIGH, ["x"])])
        self.assertEqual([repo.space(LOW)[name("cid", k)][2] for k in (5, 6, 7)],
                         [[("drop", (BOB, 0, 0), [(BOB, 0, 0)]), ("cut", (BOB, 0, 0), [(BOB, 1, 0)])],
                          [("drop", (name("cid", 4), 0, 0), [(name("cid", 4), 0, 0)]),
                           ("cut", (name("cid", 4), 0, 0), [(name("cid", 4), 1, 0)])],
                          [("drop", FILE, [FILE]), ("cut", FILE, [X])]])
        self.assertEqual([row[2][0] for row in repo.space(HIGH).values()], [("add", A), ("add", B)])
        self.assertEqual(sorted(repo.space(HIGH)), [name("cid", 1, HIGH), name("cid", 2, HIGH)])
        self.assertEqual(repo.space(MID), {name("bob", 5, MID): start("m", one=name("bob", 5, MID), path=M)})

    def test_several_files_at_the_elder_label_and_at_the_new_one(self):
        old, new = [name("bob", k) for k in (1, 2)], [name("eve", k, MID) for k in (1, 2)]
        repo = repo_of([], *[start("o", one=one) for one in old], *[start("n", one=one) for one in new])
        self.assertEqual(reclass(repo, "cid", A, MID), [(A, LOW, MID, ["o"])])
        for at, ids in [(LOW, old), (MID, new)]:
            for k, one in enumerate(ids, 1):
                self.assertEqual(repo.space(at)[name("cid", k, at)],
                                 patch(name("cid", k, at), ("drop", (one, 0, 0), [(one, 0, 0)]),
                                       ("cut", (one, 0, 0), [(one, 1, 0)]), note="reclass"))
        third = name("cid", 3, MID)
        self.assertEqual(repo.space(MID)[third][2], [("add", A), ("lines", (third, 0, 0), [], [], ["o"])])
        self.assertEqual(files_at(repo.rules, MID, repo.space(MID)), {A: [(third, 0, 0)]})
        self.assertEqual((len(repo.space(LOW)), len(repo.space(MID))), (4, 5))

    def test_a_file_with_names_at_two_turned_paths(self):
        rows = [start("x"), patch(BOB, ("move", FILE, A, [FILE])), patch(EVE, ("move", FILE, AB, [FILE]))]
        repo = repo_of([], *rows)
        self.assertEqual(reclass(repo, "cid", (), MID), [(A, LOW, MID, ["x"]), (AB, LOW, MID, ["x"])])
        self.assertEqual([repo.space(LOW)[name("cid", k)][2] for k in (1, 2)],
                         [[("drop", FILE, [(BOB, 0, 0)])], [("drop", FILE, [(EVE, 0, 0)]), ("cut", FILE, [X])]])
        self.assertEqual(len(repo.space(MID)), 2)

    def test_a_file_with_a_name_at_a_path_that_stays(self):
        rows = [start("x"), patch(BOB, ("move", FILE, A, [FILE])), patch(EVE, ("move", FILE, B, [FILE]))]
        repo = repo_of([], *rows)
        self.assertEqual(reclass(repo, "cid", A, MID), [(A, LOW, MID, ["x"])])
        self.assertEqual(repo.space(LOW)[name("cid", 1)][2], [("drop", FILE, [(BOB, 0, 0)])])
        self.assertEqual(files_at(repo.rules, LOW, repo.space(LOW)), {B: [FILE]})

    def test_more_than_200_lines(self):
        rows = [start(*[str(k) for k in range(200)])]
        rows.append(patch(BOB, ("lines", FILE, [(ANN, 1, 199)], [], [str(k) for k in range(200, 400)])))
        rows.append(patch(EVE, ("lines", FILE, [(BOB, 0, 199)], [], ["400"])))
        texts = [str(k) for k in range(401)]
        for many, sizes in [(1, [200]), (2, [200, 200]), (3, [200, 200, 1])]:
            repo = repo_of([], *rows[:many])
            self.assertEqual(reclass(repo, "cid", A, MID), [(A, LOW, MID, texts[:sum(sizes)])])
            one = name("cid", 1, MID)
            want = [("add", A)]
            for place, size in enumerate(sizes, 1):
                start_at = 200 * (place - 1)
                ups = [(one, place - 1, 199)] if place > 1 else []
                want.append(("lines", (one, 0, 0), ups, [], texts[start_at:start_at + size]))
            self.assertEqual(repo.space(MID), {one: patch(one, *want, note="reclass")})
            self.assertEqual([len(change[2]) for change in repo.space(LOW)[name("cid", 1)][2]], [1] + sizes)

    def test_more_changes_than_one_patch_may_have(self):
        for parts in [11, 12, 13, 24]:
            rows = [start("0")]
            for k in range(1, parts):
                rows.append(patch(name("bob", k), ("lines", FILE, [], [], [str(k)] * 200)))
            rows.append(patch(name("bob", parts), ("lines", FILE, [], [], ["last"] * 199)))
            repo = repo_of([], *rows)
            paper = reclass(repo, "cid", A, MID)
            texts = paper[0][3]
            self.assertEqual(len(texts), 200 * parts)
            space = repo.space(MID)
            ids = sorted(space)
            self.assertEqual(ids, [name("cid", k, MID) for k in range(1, len(ids) + 1)])
            sizes = [len(space[one][2]) for one in ids]
            self.assertEqual(sizes, [12] * ((parts + 1) // 12) + [(parts + 1) % 12] * ((parts + 1) % 12 > 0))
            self.assertEqual(shown_texts(file_graph(space, (ids[0], 0, 0))), texts)
            self.assertTrue(is_set(space) and is_set(repo.space(LOW)))
            self.assertEqual(files_at([], LOW, repo.space(LOW)), {})
            self.assertEqual(file_graph(repo.space(LOW), FILE).present_lines(), [])
            taken = [repo.space(LOW)[one] for one in sorted(repo.space(LOW)) if one[1] == "cid"]
            self.assertEqual([len(row[2]) for row in taken], sizes)
            self.assertEqual({row[3] for row in taken + list(space.values())}, {"reclass"})
            changes = [change for one in ids for change in space[one][2]]
            where = [(one, place) for one in ids for place in range(len(space[one][2]))]
            for at in range(2, len(changes)):
                self.assertEqual(changes[at][2:4], ([(*where[at - 1], 199)], []))

    def test_edits_and_bases_stay(self):
        repo = repo_of([], start("x"))
        session = Session(repo, "cid", HIGH)
        session.perform(("put", B, ["b"]))
        before = session.base
        reclass(repo, "cid", A, MID)
        self.assertEqual((session.base, session.edits), ({LOW: {ANN: start("x")}}, {B: ["b"]}))
        self.assertIs(session.base, before)
        # The path has another label now, at which the base has nothing yet.
        self.assertIsNone(session.texts(A))
        session.perform(("revert",))
        session.perform(("update",))
        self.assertEqual(session.texts(A), ["x"])
        self.assertEqual(session.perform(("log",))[1], [(ANN, "start"), (name("cid", 1), "reclass"), (name("cid", 1, MID), "reclass")])

    def test_a_path_that_gets_an_elder_label_again(self):
        repo = repo_of([], start("x"))
        session = Session(repo, "cid", HIGH)
        reclass(repo, "dan", A, MID)
        reclass(repo, "dan", A, LOW)
        self.assertEqual(repo.rules, [(A, MID), (A, LOW)])
        self.assertEqual(session.texts(A), ["x"])
        self.assertEqual(session.perform(("show", A)), ("shown", [[(X, "x")]]))
        session.perform(("update",))
        self.assertEqual(session.perform(("show", A)), ("shown", [[((name("dan", 2), 1, 0), "x")]]))

    def test_random_repositories(self):
        turned = 0
        for seed in range(60):
            rng = random.Random(seed)
            repo = busy_repo(rng)
            before = copy_of(repo)
            prefix, new = rng.choice([(), (), A, B, S, M, ("s", "1"), ("x",)]), rng.choice([LOW, MID, HIGH, SIDE])
            paper = reclass(repo, "zed", prefix, new)
            self.assertEqual(repo.rules, before.rules + [(prefix, new)])
            self.assertEqual([item[0] for item in paper], sorted({item[0] for item in paper}))
            turned += len(paper)
            for path, old, other, texts in paper:
                self.assertEqual((label_of(before.rules, path), label_of(repo.rules, path)), (old, other))
                self.assertNotEqual(old, other)
                files = files_at(repo.rules, other, repo.space(other))[path]
                self.assertEqual((len(files), shown_texts(file_graph(repo.space(other), files[0]))), (1, texts))
                self.assertNotIn(path, files_at(before.rules, old, repo.space(old)))
            for at in set(before.spaces) | set(repo.spaces):
                self.assertTrue(is_set(repo.space(at)))
                rows = files_at(before.rules, at, before.space(at))
                told = files_at(repo.rules, at, repo.space(at))
                for path in set(rows) - {item[0] for item in paper}:
                    self.assertEqual(told[path], rows[path])
                    self.assertEqual(shown(file_graph(repo.space(at), rows[path][0])), shown(file_graph(before.space(at), rows[path][0])))
                for path in set(rows) & {item[0] for item in paper}:
                    self.assertTrue(begins(prefix, path))
            self.assertIs(paper_right(before, repo, "zed", prefix, new, paper), True)
        self.assertGreater(turned, 20)


class ReleasesTest(unittest.TestCase):
    def test_releases(self):
        items = [(A, HIGH, LOW, ["a"]), (B, LOW, MID, ["b"]), (S, HIGH, MID, []), (M, MID, SIDE, ["m"])]
        papers = [("cid", (A, LOW), items[:1]), ("dan", (B, MID), []), ("cid", ((), MID), items[1:])]
        for clearance, want in [(LOW, [(0, items[0])]), (MID, [(0, items[0]), (2, items[2])]), (HIGH, []),
                                (SIDE, [(0, items[0]), (2, items[3])]), (label(1), [(0, items[0])]), (TOP, [])]:
            self.assertEqual(releases(papers, clearance), want, clearance)
        self.assertEqual(releases([], LOW), [])

    def test_what_a_repository_releases(self):
        repo = repo_of(RULES, start("s", one=name("bob", 1, HIGH), path=S))
        reclass(repo, "cid", ("s", "q"), LOW)
        reclass(repo, "cid", S, MID)
        for clearance, want in [(LOW, []), (MID, [(1, (S, HIGH, MID, ["s"]))]), (HIGH, [])]:
            self.assertEqual(releases(repo.papers, clearance), want)


class PaperTest(unittest.TestCase):
    def setUp(self):
        self.before = repo_of(RULES, start("x", "y"), start("z", one=BOB, path=AB))
        self.after = copy_of(self.before)
        self.paper = reclass(self.after, "cid", A, MID)

    def right(self, before=None, after=None, hand="cid", prefix=A, new=MID, paper=None):
        given = before or self.before, after or self.after, hand, prefix, new, self.paper if paper is None else paper
        kept = copy.deepcopy([state(repo) for repo in given[:2]])
        told = paper_right(*given)
        self.assertEqual([state(repo) for repo in given[:2]], kept)
        return told

    def test_the_paper(self):
        self.assertIs(self.right(), True)

    def test_something_otherwise(self):
        self.assertIs(self.right(hand="dan"), False)
        self.assertIs(self.right(prefix=AB), False)
        self.assertIs(self.right(prefix=()), False)
        self.assertIs(self.right(new=HIGH), False)
        self.assertIs(self.right(before=self.after), False)
        self.assertIs(self.right(after=self.before), False)
        self.assertIs(self.right(before=self.after, after=self.before), False)

    def test_other_papers(self):
        one, two = self.paper
        for paper in [[], [one], [two], [two, one], [one, two, two], [one, (AB, LOW, MID, ["q"])], [one, (AB, LOW, MID, None)],
                      [one, (AB, MID, LOW, ["z"])], [one, (B, LOW, MID, ["z"])], [one, (AB, LOW, HIGH, ["z"])]]:
            self.assertIs(self.right(paper=paper), False, paper)

    def test_other_repositories(self):
        other = copy_of(self.after)
        other.put(patch(name("dan", 1), ("add", B)))
        self.assertIs(self.right(after=other), False)
        other = copy_of(self.after)
        other.rules.append((B, LOW))
        self.assertIs(self.right(after=other), False)
        other = copy_of(self.before)
        other.put(patch(name("dan", 1), ("add", B)))
        self.assertIs(self.right(before=other), False)

    def test_the_papers_that_they_keep_do_not_count(self):
        before, after = copy_of(self.before), copy_of(self.after)
        before.papers.append(("zed", (B, MID), []))
        after.papers = []
        self.assertIs(self.right(before, after), True)

    def test_no_item(self):
        after = copy_of(self.before)
        self.assertEqual(reclass(after, "cid", B, MID), [])
        self.assertIs(self.right(after=after, prefix=B, paper=[]), True)
        self.assertIs(self.right(after=after, prefix=B, paper=self.paper), False)

    def test_spaces_without_patches_do_not_count(self):
        after = copy_of(self.after)
        after.spaces[SIDE] = {}
        self.assertIs(self.right(after=after), True)


class CopyTest(unittest.TestCase):
    def test_copies(self):
        for seed in range(10):
            repo = busy_repo(random.Random(seed))
            reclass(repo, "zed", S, MID)
            repo.papers.append(("yak", (A, LOW), [(A, MID, LOW, None)]))
            kept = copy.deepcopy(state(repo))
            other = copy_of(repo)
            self.assertIsInstance(other, Repo)
            self.assertEqual(state(other), kept)
            other.rules.append((A, HIGH))
            reclass(other, "zed", (), SIDE)
            for _, _, paper in other.papers:
                for item in paper:
                    if item[3] is not None:
                        item[3].append("more")
                paper.append("more")
            for row in random_rows(seed, 4, TOP):
                other.put(row)
            self.assertEqual(state(repo), kept)

    def test_the_paper_is_not_that_of_the_repository(self):
        repo = repo_of([], start("x"))
        paper = reclass(repo, "cid", A, MID)
        paper[0][3].append("more")
        paper.append("more")
        self.assertEqual(repo.papers, [("cid", (A, MID), [(A, LOW, MID, ["x"])])])
        told = releases([("cid", (A, LOW), [(A, MID, LOW, ["x"])])], LOW)
        told[0][1][3].append("more")
        self.assertEqual(repo.papers[0][2][0][3], ["x"])
        self.assertEqual(PUBLIC, LOW)


if __name__ == "__main__":
    unittest.main()
