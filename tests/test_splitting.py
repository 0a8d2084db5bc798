"""Point 76: the changes that record edits."""

import random
import unittest

from build import ANN, BOB, EVE, FILE, PATHS, PUBLIC, label, made, name, patch, random_rows, start
from quiltward.blocks import shown, shown_texts
from quiltward.graphs import file_graph
from quiltward.patches import check_fits
from quiltward.sets import set_of, with_patch
from quiltward.splitting import changes_for, part_of, split, taken_from
from quiltward.trees import tree
from test_checks import slow_names

A, B, C = ("a",), ("b",), ("c",)
X, Y = (ANN, 1, 0), (ANN, 1, 1)
DAN = name("dan", 1)
OTHER = (BOB, 0, 0)


def both(*paths):
    """Patches that give the file of ann more names; the id of the k-th one is that of zed with the number k."""
    return [patch(name("zed", k), ("move", FILE, path, [FILE])) for k, path in enumerate(paths, 1)]


class SplitTest(unittest.TestCase):
    def test_labels(self):
        rules = [(A, label(2)), (("a", "b"), label(1, 3)), (B, label(2)), (C, label(1, 0, 3))]
        edits = {C: ["x"], ("a", "b", "c"): None, B: [], ("d",): ["y"], A: ["x"], ("a", "b"): ["z"]}
        told = split(edits, rules)
        self.assertEqual(list(told.items()), [(PUBLIC, [("d",)]), (label(1, 0, 3), [C]),
                                              (label(1, 3), [("a", "b"), ("a", "b", "c")]), (label(2), [A, B])])

    def test_no_edits(self):
        self.assertEqual(split({}, [(A, label(2))]), {})

    def test_no_rules(self):
        self.assertEqual(split({B: None, A: []}, []), {PUBLIC: [A, B]})


class TakenFromTest(unittest.TestCase):
    def test_a_file_with_one_name(self):
        gone = {}
        self.assertEqual(taken_from(set_of([start("x", "y")]), FILE, A, gone), [("drop", FILE, [FILE]), ("cut", FILE, [X, Y])])
        self.assertEqual(gone, {FILE: True})

    def test_a_file_without_present_lines(self):
        self.assertEqual(taken_from(set_of([start()]), FILE, A, {}), [("drop", FILE, [FILE])])
        rows = [start("x", "y"), patch(BOB, ("cut", FILE, [X, Y]))]
        self.assertEqual(taken_from(set_of(rows), FILE, A, {}), [("drop", FILE, [FILE])])
        rows[1] = patch(BOB, ("cut", FILE, [X]))
        self.assertEqual(taken_from(set_of(rows), FILE, A, {}), [("drop", FILE, [FILE]), ("cut", FILE, [Y])])

    def test_a_file_with_other_names(self):
        patches, names = set_of([start("x")] + both(B, C, B)), [(name("zed", k), 0, 0) for k in (1, 2, 3)]
        gone = {}
        self.assertEqual(taken_from(patches, FILE, C, gone), [("drop", FILE, [names[1]])])
        self.assertEqual(gone, {names[1]: True})
        self.assertEqual(taken_from(patches, FILE, B, gone), [("drop", FILE, [names[0], names[2]]), ("cut", FILE, [X])])
        self.assertEqual(gone, {one: True for one in names})
        # Names that do not count, and those of other files, do not bear on it.
        self.assertEqual(taken_from(patches, FILE, B, {OTHER: True, FILE: True}), [("drop", FILE, [names[0], names[2]])])

    def test_more_than_12_names(self):
        rows = [start("x")] + both(*[B] * 25)
        names = [(name("zed", k), 0, 0) for k in range(1, 26)]
        gone = {}
        changes = taken_from(set_of(rows), FILE, B, gone)
        self.assertEqual(changes, [("drop", FILE, names[:12]), ("drop", FILE, names[12:24]), ("drop", FILE, names[24:]),
                                   ("cut", FILE, [X])])
        self.assertEqual(sorted(gone), names)

    def test_more_than_200_lines(self):
        rows = [start(*["x"] * 200), patch(BOB, ("lines", FILE, [], [], ["y"] * 200)), patch(EVE, ("lines", FILE, [], [], ["z"]))]
        changes = taken_from(set_of(rows), FILE, A, {})
        self.assertEqual([(change[0], len(change[2])) for change in changes],
                         [("drop", 1), ("cut", 200), ("cut", 200), ("cut", 1)])
        self.assertEqual(sum([change[2] for change in changes[1:]], []), file_graph(set_of(rows), FILE).present_lines())


class ChangesTest(unittest.TestCase):
    patches = set_of([start("x", "y")])
    two = set_of([start("x", "y"), start("z", one=BOB)])

    def told(self, patches, files, texts, place=0):
        gone = {}
        changes = changes_for(patches, files, A, texts, DAN, place, gone)
        return changes, sorted(gone)

    def test_one_file(self):
        self.assertEqual(self.told(self.patches, [FILE], ["x", "z"]),
                         ([("cut", FILE, [Y]), ("lines", FILE, [X], [], ["z"])], []))
        self.assertEqual(self.told(self.patches, [FILE], ["x", "y"]), ([], []))
        self.assertEqual(self.told(self.patches, [FILE], []), ([("cut", FILE, [X, Y])], []))

    def test_no_file(self):
        for place in [0, 1, 11]:
            file = (DAN, place, 0)
            self.assertEqual(self.told({}, [], ["x", "y"], place), ([("add", A), ("lines", file, [], [], ["x", "y"])], []))
        self.assertEqual(self.told({}, [], []), ([("add", A)], []))
        self.assertEqual(self.told({}, [], None), ([], []))

    def test_taken_away(self):
        self.assertEqual(self.told(self.patches, [FILE], None), ([("drop", FILE, [FILE]), ("cut", FILE, [X, Y])], [FILE]))
        self.assertEqual(self.told(self.two, [FILE, OTHER], None),
                         ([("drop", FILE, [FILE]), ("cut", FILE, [X, Y]), ("drop", OTHER, [OTHER]),
                           ("cut", OTHER, [(BOB, 1, 0)])], [FILE, OTHER]))

    def test_several_files(self):
        self.assertEqual(self.told(self.two, [FILE, OTHER], ["y"]),
                         ([("cut", FILE, [X]), ("drop", OTHER, [OTHER]), ("cut", OTHER, [(BOB, 1, 0)])], [OTHER]))

    def test_a_first_file_with_other_names(self):
        rows = [start("x", "y"), start("z", one=BOB, path=B), patch(EVE, ("move", FILE, B, [FILE])),
                patch(DAN, ("move", FILE, C, [FILE]))]
        patches, own = set_of(rows), name("dan", 2)
        gone = {}
        changes = changes_for(patches, [FILE, OTHER], B, ["new"], own, 3, gone)
        self.assertEqual(changes, [("drop", FILE, [(EVE, 0, 0)]), ("drop", OTHER, [OTHER]), ("cut", OTHER, [(BOB, 1, 0)]),
                                   ("add", B), ("lines", (own, 6, 0), [], [], ["new"])])
        self.assertEqual(sorted(gone), [OTHER, (EVE, 0, 0)])

    def test_names_that_are_dropped_earlier_in_the_same_patch(self):
        patches, own = set_of([start("x")] + both(B, C)), name("dan", 2)
        first, second = [(name("zed", k), 0, 0) for k in (1, 2)]
        files = {B: [FILE], C: [FILE]}
        # In the base the file has another name yet, so the second path gets a new file; the lines of the first one go.
        self.assertEqual(part_of(patches, files, [B, C], {B: None, C: ["new"]}, own),
                         [("drop", FILE, [first]), ("drop", FILE, [second]), ("cut", FILE, [X]), ("add", C),
                          ("lines", (own, 3, 0), [], [], ["new"])])
        self.assertEqual(part_of(patches, files, [C, B], {B: None, C: None}, own),
                         [("drop", FILE, [second]), ("drop", FILE, [first]), ("cut", FILE, [X])])

    def test_a_file_with_two_names_at_one_path(self):
        patches = set_of([start("x")] + both(B, B))
        self.assertEqual(changes_for(patches, [FILE], B, ["x", "y"], DAN, 0, {}), [("lines", FILE, [X], [], ["y"])])

    def test_parts(self):
        patches = set_of([start("x"), start("z", one=BOB, path=B)])
        files = {A: [FILE], B: [OTHER]}
        edits = {A: ["x", "y"], B: None, C: ["c"], ("d",): [], ("e",): None}
        self.assertEqual(part_of(patches, files, sorted(edits), edits, DAN),
                         [("lines", FILE, [X], [], ["y"]), ("drop", OTHER, [OTHER]), ("cut", OTHER, [(BOB, 1, 0)]),
                          ("add", C), ("lines", (DAN, 3, 0), [], [], ["c"]), ("add", ("d",))])
        self.assertEqual(part_of(patches, files, [C, A], edits, DAN),
                         [("add", C), ("lines", (DAN, 0, 0), [], [], ["c"]), ("lines", FILE, [X], [], ["y"])])
        self.assertEqual(part_of(patches, files, [], edits, DAN), [])


class RandomTest(unittest.TestCase):
    def shows(self, patches, path, files):
        """What is shown of the files of a path."""
        return [(file, shown(file_graph(patches, file))) for file in files.get(path, [])]

    def test_each_path_shows_its_texts_and_others_show_what_they_showed(self):
        several = 0
        for seed in range(120):
            rng = random.Random(seed)
            patches = set_of(random_rows(seed, 14))
            files = dict(tree(patches))
            paths = sorted(rng.sample(PATHS, rng.randint(1, 3)))
            edits = {path: rng.choice([None, [], ["x"], ["new", "y", "x"], ["x", "x"]]) for path in paths}
            changes, gone = [], {}
            for path in paths:
                more = changes_for(patches, files.get(path, []), path, edits[path], DAN, len(changes), gone)
                changes += more
            self.assertEqual(part_of(patches, files, paths, edits, DAN), changes)
            if not 1 <= len(changes) <= 12:
                continue
            several += len(changes) > 4
            one = patch(DAN, *changes)
            check_fits(patches, one)
            after = with_patch(patches, one)
            rows = dict(tree(after))
            for path in PATHS:
                if path not in edits:
                    self.assertEqual(self.shows(after, path, rows), self.shows(patches, path, files))
                elif edits[path] is None:
                    self.assertNotIn(path, rows)
                else:
                    self.assertEqual(len(rows[path]), 1)
                    self.assertEqual(shown_texts(file_graph(after, rows[path][0])), edits[path])
                    self.assertEqual({pair[0] for pair in slow_names(after, rows[path][0])}, {path})
            # No line of a file that has lost its last name is left.
            for file in made(patches.values())[0]:
                if slow_names(patches, file) and not slow_names(after, file) and file[0] in after:
                    self.assertEqual(file_graph(after, file).present_lines(), [])
        self.assertGreater(several, 20)


if __name__ == "__main__":
    unittest.main()
