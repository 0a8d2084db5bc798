"""Points 49 and 50: files and names."""

import unittest

from build import ANN, BOB, EVE, FILE, made, name, patch, random_rows, slow_standing, start
from quiltward.sets import set_of
from quiltward.trees import clear_tree, conflicts, files_of, names, tree

A, B, AB = ("a",), ("b",), ("a", "b")
LAST = (EVE, 0, 0)


def slow_names(patches, file):
    """The names of a file that count, as point 49 says it."""
    stands = slow_standing(patches)
    rows = [(change, (one, place, 0)) for one in stands for place, change in enumerate(patches[one][2])]
    gone = {old for change, _ in rows if change[0] in ("move", "drop") for old in change[-1]}
    found = [(change[1], vertex) for change, vertex in rows if change[0] == "add" and vertex == file]
    found += [(change[2], vertex) for change, vertex in rows if change[0] == "move" and change[1] == file]
    return sorted(pair for pair in found if pair[1] not in gone)


def slow_live(patches, file):
    stands = slow_standing(patches)
    cuts = {line for one in stands for change in patches[one][2] if change[0] == "cut" for line in change[2]}
    return sorted(line for line in made(patches.values())[2].get(file, []) if line[0] in stands and line not in cuts)


class TreesTest(unittest.TestCase):
    def test_one_file(self):
        patches = set_of([start("x")])
        self.assertEqual(files_of(patches), [FILE])
        self.assertEqual(names(patches, FILE), [(A, FILE)])
        self.assertEqual(tree(patches), [(A, [FILE])])
        self.assertEqual(conflicts(patches), [])
        self.assertEqual(clear_tree(patches), [(A, FILE)])
        self.assertEqual([files_of({}), tree({}), conflicts({}), clear_tree({})], [[], [], [], []])

    def test_several_files_with_one_path(self):
        patches = set_of([start("x"), start(one=EVE), patch(BOB, ("add", B), ("add", A))])
        files = [FILE, (BOB, 1, 0), LAST]
        self.assertEqual(tree(patches), [(A, files), (B, [(BOB, 0, 0)])])
        self.assertEqual(conflicts(patches), [("path", A, files)])
        self.assertEqual(clear_tree(patches), [(B, (BOB, 0, 0))])

    def test_a_path_that_begins_others(self):
        rows = [start(one=name("ann", k), path=path) for k, path in
                enumerate([AB, A, ("a", "b", "c"), ("ab",), ("a", "c", "d", "e"), B], 1)]
        patches = set_of(rows)
        deep = ("a", "b", "c")
        self.assertEqual(conflicts(patches), [("inside", A, [AB, deep, ("a", "c", "d", "e")]), ("inside", AB, [deep])])
        self.assertEqual(clear_tree(patches), [(("ab",), (name("ann", 4), 0, 0)), (B, (name("ann", 6), 0, 0))])

    def test_both_kinds_path_by_path(self):
        rows = [start(one=name("ann", k), path=path) for k, path in enumerate([AB, A, AB, A], 1)]
        one, two, three, four = [(row[1], 0, 0) for row in rows]
        self.assertEqual(conflicts(set_of(rows)), [("path", A, [two, four]), ("inside", A, [AB]), ("path", AB, [one, three])])
        self.assertEqual(clear_tree(set_of(rows)), [])

    def test_moves_that_do_not_know_each_other(self):
        rows = [start("x"), patch(BOB, ("move", FILE, B, [FILE])), patch(EVE, ("move", FILE, ("c",), [FILE]))]
        pairs = [(B, (BOB, 0, 0)), (("c",), (EVE, 0, 0))]
        patches = set_of(rows)
        self.assertEqual(names(patches, FILE), pairs)
        self.assertEqual(tree(patches), [(B, [FILE]), (("c",), [FILE])])
        self.assertEqual(conflicts(patches), [("names", FILE, pairs)])
        self.assertEqual(clear_tree(patches), [])
        both = patch(name("eve", 2), ("move", FILE, ("d",), [(BOB, 0, 0), (EVE, 0, 0)]))
        patches = set_of(rows + [both])
        self.assertEqual(tree(patches), [(("d",), [FILE])])
        self.assertEqual([conflicts(patches), clear_tree(patches)], [[], [(("d",), FILE)]])
        patches = set_of(rows + [both, patch(name("eve", 3), ("back", both[1]))])
        self.assertEqual(conflicts(patches), [("names", FILE, pairs)])

    def test_two_names_with_one_path(self):
        rows = [start("x"), patch(BOB, ("move", FILE, B, [FILE])), patch(EVE, ("move", FILE, B, [FILE]))]
        patches = set_of(rows)
        self.assertEqual(tree(patches), [(B, [FILE])])
        self.assertEqual(conflicts(patches), [("names", FILE, [(B, (BOB, 0, 0)), (B, (EVE, 0, 0))])])
        self.assertEqual(clear_tree(patches), [])

    def test_a_drop_beside_a_move(self):
        rows = [start("x"), patch(BOB, ("drop", FILE, [FILE])), patch(EVE, ("move", FILE, B, [FILE]))]
        self.assertEqual(tree(set_of(rows)), [(B, [FILE])])
        self.assertEqual(conflicts(set_of(rows[:2])), [("nameless", FILE, [(ANN, 1, 0)])])
        again = rows + [patch(name("eve", 2), ("drop", FILE, [(EVE, 0, 0)]))]
        self.assertEqual(conflicts(set_of(again)), [("nameless", FILE, [(ANN, 1, 0)])])
        self.assertEqual(tree(set_of(again)), [])
        self.assertEqual(names(set_of(again), FILE), [])

    def test_a_file_without_names_and_lines_is_no_conflict(self):
        rows = [start("x", "y"), patch(BOB, ("cut", FILE, [(ANN, 1, 0)]), ("drop", FILE, [FILE]))]
        self.assertEqual(conflicts(set_of(rows)), [("nameless", FILE, [(ANN, 1, 1)])])
        rows.append(patch(EVE, ("cut", FILE, [(ANN, 1, 1)])))
        self.assertEqual(conflicts(set_of(rows)), [])
        rows.append(patch(name("eve", 2), ("lines", FILE, [], [], ["z"])))
        self.assertEqual(conflicts(set_of(rows)), [("nameless", FILE, [(name("eve", 2), 0, 0)])])
        rows.append(patch(name("eve", 3), ("back", name("eve", 2))))
        self.assertEqual(conflicts(set_of(rows)), [])
        self.assertEqual(files_of(set_of(rows)), [FILE])

    def test_files_of_patches_that_were_taken_back(self):
        rows = [start("x"), patch(BOB, ("move", FILE, B, [FILE])), patch(EVE, ("back", ANN))]
        patches = set_of(rows)
        self.assertEqual([files_of(patches), tree(patches), conflicts(patches)], [[], [], []])
        patches = set_of(rows + [patch(name("eve", 2), ("back", EVE))])
        self.assertEqual(tree(patches), [(B, [FILE])])
        patches = set_of(rows[:2] + [patch(EVE, ("back", BOB))])
        self.assertEqual(names(patches, FILE), [(A, FILE)])
        patches = set_of(rows[:2] + [patch(EVE, ("back", BOB)), patch(name("eve", 2), ("back", EVE))])
        self.assertEqual(names(patches, FILE), [(B, (BOB, 0, 0))])

    def test_the_order_of_conflicts(self):
        rows = [start("x", path=B), patch(BOB, ("drop", FILE, [FILE])), start("y", one=EVE, path=A),
                start(one=name("eve", 2), path=A), patch(name("bob", 2), ("move", LAST, AB, [LAST])),
                patch(name("bob", 3), ("move", LAST, A, [LAST]))]
        two = (name("eve", 2), 0, 0)
        pairs = [(A, (name("bob", 3), 0, 0)), (AB, (name("bob", 2), 0, 0))]
        self.assertEqual(conflicts(set_of(rows)), [("path", A, [LAST, two]), ("inside", A, [AB]),
                                                   ("nameless", FILE, [(ANN, 1, 0)]), ("names", LAST, pairs)])

    def test_random_sets(self):
        for seed in range(60):
            patches = set_of(random_rows(seed, 12))
            stands = slow_standing(patches)
            files = sorted(file for file in made(patches.values())[0] if file[0] in stands)
            held = {file: slow_names(patches, file) for file in files}
            self.assertEqual(files_of(patches), files)
            self.assertEqual({file: names(patches, file) for file in files}, held)
            paths = sorted({path for file in files for path, _ in held[file]})
            rows = {path: [file for file in files if path in dict(held[file])] for path in paths}
            self.assertEqual(tree(patches), [(path, rows[path]) for path in paths])
            want = []
            for path in paths:
                inner = [other for other in paths if other != path and other[:len(path)] == path]
                want += [("path", path, rows[path])] * (len(rows[path]) > 1) + [("inside", path, inner)] * bool(inner)
            doubtful = {file for word, path, _ in want if word == "path" for file in rows[path]}
            doubtful |= {file for word, path, inner in want if word == "inside" for other in [path] + inner
                         for file in rows[other]}
            for file in files:
                live = slow_live(patches, file)
                want += [("names", file, held[file])] * (len(held[file]) > 1)
                want += [("nameless", file, live)] * (bool(live) and not held[file])
            self.assertEqual(conflicts(patches), want)
            self.assertEqual(clear_tree(patches), [(path, file) for path in paths for file in rows[path]
                                                   if file not in doubtful and len(held[file]) == 1])


if __name__ == "__main__":
    unittest.main()
