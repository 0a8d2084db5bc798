"""Point 73: repositories."""

import unittest

from build import PUBLIC, label, name, patch, random_rows, start
from quiltward.errors import PatchError
from quiltward.paths import label_of
from quiltward.repos import Repo, files_at, files_below
from quiltward.sets import set_of
from quiltward.trees import tree

LOW, MID, TOP, SIDE = PUBLIC, label(1, 2), label(3, 0, 2), label(0, 5)
RULES = [(("s",), TOP), (("m",), MID), (("s", "x"), SIDE)]


def add(hand, number, at, *path):
    return start("x", one=name(hand, number, at), path=path)


class RepoTest(unittest.TestCase):
    def test_a_new_one(self):
        repo = Repo(RULES)
        self.assertEqual((repo.rules, repo.spaces, repo.papers), (RULES, {}, []))
        self.assertEqual((repo.labels(), repo.space(TOP)), ([], {}))

    def test_each_label_has_its_own_space(self):
        repo = Repo(RULES)
        rows = [add("ann", 1, TOP, "s"), add("ann", 1, LOW, "a"), add("bob", 1, MID, "m"), add("ann", 2, LOW, "s"),
                add("ann", 1, SIDE, "a")]
        for row in rows:
            repo.put(row)
        self.assertEqual(repo.labels(), [LOW, SIDE, MID, TOP])
        self.assertEqual(repo.spaces, {LOW: set_of([rows[1], rows[3]]), TOP: set_of(rows[:1]), MID: set_of(rows[2:3]),
                                       SIDE: set_of(rows[4:])})
        self.assertEqual(repo.space(LOW), set_of([rows[1], rows[3]]))
        self.assertEqual(repo.space(label(7)), {})
        self.assertEqual(repo.labels(), [LOW, SIDE, MID, TOP])

    def test_put_raises_as_sets_do(self):
        repo = Repo([])
        repo.put(add("ann", 1, LOW, "a"))
        other = (name("ann", 1, LOW), 0, 0)
        for place, row in [(-1, add("ann", 1, LOW, "a")), (-1, add("ann", 0, LOW, "a")), (-1, add("ann", 0, MID, "a")),
                           (1, patch(name("ann", 2), ("add", ("b",)), ("back", name("ann", 3)))),
                           (0, patch(name("ann", 1, MID), ("drop", other, [other])))]:
            with self.assertRaises(PatchError) as caught:
                repo.put(row)
            self.assertEqual(caught.exception.place, place)
            self.assertEqual((repo.labels(), len(repo.space(LOW))), ([LOW], 1))

    def test_sets_that_were_seen_stay_as_they_are(self):
        repo = Repo([])
        repo.put(add("ann", 1, LOW, "a"))
        seen, taken = repo.spaces[LOW], repo.space(LOW)
        repo.put(add("ann", 2, LOW, "a"))
        self.assertEqual([len(seen), len(taken), len(repo.space(LOW))], [1, 1, 2])
        repo.space(LOW).clear()
        repo.labels().clear()
        self.assertEqual(len(repo.space(LOW)), 2)

    def test_rules_are_copied(self):
        rules = list(RULES)
        repo = Repo(rules)
        rules.append((("z",), TOP))
        self.assertEqual(repo.rules, RULES)

    def test_next_ids(self):
        repo = Repo([])
        self.assertEqual(repo.next_id(TOP, "ann"), name("ann", 1, TOP))
        self.assertEqual(repo.labels(), [])
        for row in [add("ann", 9, LOW, "a"), add("ann", 3, LOW, "a"), add("bob", 5, LOW, "a"), add("ann", 20, TOP, "a")]:
            repo.put(row)
        self.assertEqual([repo.next_id(LOW, hand) for hand in ["ann", "bob", "eve"]],
                         [name("ann", 10), name("bob", 6), name("eve", 1)])
        self.assertEqual(repo.next_id(TOP, "ann"), name("ann", 21, TOP))
        self.assertEqual(repo.next_id(TOP, "bob"), name("bob", 1, TOP))


class FilesTest(unittest.TestCase):
    def test_a_space_has_nothing_to_say_about_paths_with_other_labels(self):
        rows = [add("ann", 1, TOP, "s"), add("ann", 2, TOP, "s", "x"), add("ann", 3, TOP, "m", "s"),
                add("ann", 4, TOP, "a"), add("bob", 1, TOP, "s"), add("ann", 5, TOP, "s", "y")]
        patches = set_of(rows)
        files = [(row[1], 0, 0) for row in rows]
        self.assertEqual(files_at(RULES, TOP, patches), {("s",): [files[0], files[4]], ("s", "y"): [files[5]]})
        self.assertEqual(files_at(RULES, SIDE, patches), {("s", "x"): [files[1]]})
        self.assertEqual(files_at(RULES, label(7), patches), {})
        self.assertEqual(files_at([], PUBLIC, patches), dict(tree(patches)))

    def test_files_below(self):
        spaces = {}
        for at in [TOP, LOW, MID, SIDE]:
            spaces[at] = set_of([add("ann", k, at, *path) for k, path in
                                 enumerate([("s",), ("s", "x"), ("m",), ("a",)], 1)])
        file = {at: [(name("ann", k, at), 0, 0) for k in range(1, 5)] for at in spaces}
        top, side, mid, low = ((("s",), [file[TOP][0]]), (("s", "x"), [file[SIDE][1]]), (("m",), [file[MID][2]]),
                               (("a",), [file[LOW][3]]))
        for clearance, told in [(TOP, [top, mid, low]), (MID, [mid, low]), (LOW, [low]), (SIDE, [side, low]),
                                (label(7, 0, 2, 5), [top, side, mid, low]), (label(7), [low])]:
            self.assertEqual(files_below(RULES, spaces, clearance), dict(told))
        self.assertEqual(files_below(RULES, {}, TOP), {})

    def test_random_spaces(self):
        rules = [(("a",), MID), (("a", "b"), TOP), (("b",), LOW)]
        for seed in range(10):
            spaces = {at: set_of(random_rows(seed + at[1], 8, at)) for at in [LOW, MID, TOP]}
            for at, patches in spaces.items():
                want = {path: files for path, files in tree(patches) if label_of(rules, path) == at}
                self.assertEqual(files_at(rules, at, patches), want)
                for path in want:
                    self.assertEqual(files_below(rules, spaces, TOP)[path], want[path])


if __name__ == "__main__":
    unittest.main()
