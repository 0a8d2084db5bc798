"""Points 160 and 161: contents and checks."""

import random
import unittest

from build import ANN, BOB, EVE, FILE, PATHS, TEXTS, closed, made, name, patch, random_rows, slow_standing, start
from quiltward.blocks import shown
from quiltward.checks import content, holds, is_right
from quiltward.graphs import file_graph
from quiltward.sets import set_of
from quiltward.trees import conflicts

A, B, C = ("a",), ("b",), ("c",)
X, Y = (ANN, 1, 0), (ANN, 1, 1)
CLEAR = ("clear",)
YES, NO = ("and", []), ("or", [])


def slow_names(patches, file):
    """The names of a file that count, as pairs of a path and a name."""
    stands = slow_standing(patches)
    olds = {old for one in stands for change in patches[one][2] if change[0] in ("move", "drop") for old in change[-1]}
    rows = []
    for one in stands:
        for place, change in enumerate(patches[one][2]):
            vertex = (one, place, 0)
            if vertex not in olds and (vertex == file or change[:2] == ("move", file)):
                rows.append((change[1] if vertex == file else change[2], vertex))
    return rows


def slow_content(patches):
    """The content of a set, as point 160 says it."""
    stands = slow_standing(patches)
    files = sorted(file for file in made(patches.values())[0] if file[0] in stands)
    paths = {}
    for file in files:
        for path in {pair[0] for pair in slow_names(patches, file)}:
            paths.setdefault(path, []).append(file)
    items = {file: shown(file_graph(patches, file)) for row in paths.values() for file in row}
    clear = not conflicts(patches) and all(len(block) == 1 for blocks in items.values() for block in blocks)
    return clear, [(path, [[text for block in items[file] for _, text in block] for file in paths[path]])
                   for path in sorted(paths)]


def slow_holds(check, told):
    """Whether a check holds, as point 161 says it."""
    rows = dict(told[1])
    if check[0] == "clear":
        return told[0]
    if check[0] == "not":
        return not slow_holds(check[1], told)
    if check[0] in ("and", "or"):
        return (all if check[0] == "and" else any)([slow_holds(part, told) for part in check[1]])
    texts = rows.get(check[1], [])
    if check[0] == "file":
        return len(texts) == 1
    if check[0] == "line":
        return check[2] in [text for row in texts for text in row]
    return sum(len(row) for row in texts) <= check[2]


def random_check(rng, depth):
    """A random check with others in it, so deep."""
    word = rng.choice(["clear", "file", "line", "most"] + (["not", "and", "or"] * 2 if depth else []))
    if word == "clear":
        return (word,)
    if word == "not":
        return (word, random_check(rng, depth - 1))
    if word in ("and", "or"):
        return (word, [random_check(rng, depth - 1) for _ in range(rng.randint(0, 3))])
    path = rng.choice(PATHS)
    return {"file": (word, path), "line": (word, path, rng.choice(TEXTS)), "most": (word, path, rng.randint(0, 3))}[word]


class ContentTest(unittest.TestCase):
    def told(self, *rows):
        return content(set_of(rows))

    def test_nothing(self):
        self.assertEqual(content({}), (True, []))

    def test_files(self):
        self.assertEqual(self.told(start("x", "y")), (True, [(A, [["x", "y"]])]))
        self.assertEqual(self.told(start()), (True, [(A, [[]])]))
        self.assertEqual(self.told(start("x", path=B), start("y", one=BOB)), (True, [(A, [["y"]]), (B, [["x"]])]))

    def test_several_files_at_one_path(self):
        self.assertEqual(self.told(start("y", one=BOB), start("x")), (False, [(A, [["x"], ["y"]])]))

    def test_a_path_in_another_one(self):
        self.assertEqual(self.told(start("x"), start("y", one=BOB, path=("a", "b"))),
                         (False, [(A, [["x"]]), (("a", "b"), [["y"]])]))

    def test_a_file_with_two_names(self):
        moved = [patch(who, ("move", FILE, path, [FILE])) for who, path in [(BOB, B), (EVE, C)]]
        self.assertEqual(self.told(start("x"), *moved), (False, [(B, [["x"]]), (C, [["x"]])]))

    def test_files_without_a_name(self):
        gone = patch(BOB, ("drop", FILE, [FILE]))
        self.assertEqual(self.told(start("x"), gone), (False, []))
        self.assertEqual(self.told(start("x"), gone, patch(EVE, ("cut", FILE, [X]))), (True, []))
        # A conflict of lines in a file that is not in the tree, and is not told as nameless, cannot be.
        self.assertEqual(self.told(start(), gone), (True, []))

    def test_conflicts_of_lines(self):
        rows = [start("x", "y")] + [patch(who, ("lines", FILE, [X], [Y], [who[1]])) for who in [BOB, EVE]]
        self.assertEqual(self.told(*rows[:2]), (True, [(A, [["x", "bob", "y"]])]))
        self.assertEqual(self.told(*rows), (False, [(A, [["x", "bob", "eve", "y"]])]))

    def test_taken_back(self):
        self.assertEqual(self.told(start("x"), patch(BOB, ("back", ANN))), (True, []))

    def test_random_sets(self):
        for seed in range(60):
            patches = set_of(random_rows(seed, 10))
            self.assertEqual(content(patches), slow_content(patches))

    def test_texts_are_not_shared(self):
        moved = [patch(who, ("move", FILE, path, [FILE])) for who, path in [(BOB, B), (EVE, C)]]
        rows = self.told(start("x"), *moved)[1]
        rows[0][1][0].append("more")
        self.assertEqual(rows[1], (C, [["x"]]))


class HoldsTest(unittest.TestCase):
    told = (True, [(A, [["x", "y", "x"]]), (B, [["z"], [], ["x"]]), (C, [[]])])

    def check(self, want, *checks):
        for one in checks:
            self.assertIs(holds(one, self.told), want, one)

    def test_clear(self):
        self.check(True, CLEAR)
        self.assertIs(holds(CLEAR, (False, self.told[1])), False)

    def test_file(self):
        self.check(True, ("file", A), ("file", C))
        self.check(False, ("file", B), ("file", ("d",)), ("file", ("a", "b")))

    def test_line(self):
        self.check(True, ("line", A, "x"), ("line", A, "y"), ("line", B, "x"), ("line", B, "z"))
        self.check(False, ("line", A, "z"), ("line", B, "y"), ("line", C, "x"), ("line", C, ""), ("line", ("d",), "x"))

    def test_most(self):
        self.check(True, ("most", A, 3), ("most", A, 4), ("most", B, 2), ("most", C, 0), ("most", ("d",), 0))
        self.check(False, ("most", A, 2), ("most", A, 0), ("most", B, 1), ("most", B, 0))

    def test_not(self):
        self.check(False, ("not", CLEAR), ("not", ("not", ("file", B))))
        self.check(True, ("not", ("file", B)), ("not", ("not", CLEAR)))

    def test_and_and_or(self):
        self.check(True, YES, ("and", [CLEAR]), ("and", [CLEAR, ("file", A)]), ("or", [("file", B), CLEAR]), ("or", [CLEAR]))
        self.check(False, NO, ("and", [CLEAR, ("file", B)]), ("and", [("file", B), CLEAR]), ("or", [("file", B), NO]))
        self.check(True, ("or", [NO, YES]), ("not", NO), ("and", [YES, ("not", NO), ("or", [NO, ("and", [YES])])]))
        self.check(False, ("and", [YES, NO]), ("or", [NO, NO]), ("not", ("and", [("or", [YES, NO]), YES])))

    def test_nested_deeply(self):
        for word in ["not", "and", "or"]:
            check = ("file", B)
            for _ in range(3000):
                check = (word, check) if word == "not" else (word, [check])
            self.check(False, check)
            self.check(True, ("not", check))

    def test_random_checks(self):
        for seed in range(40):
            rng = random.Random(seed)
            told = content(set_of(random_rows(seed, 8)))
            for _ in range(25):
                check = random_check(rng, 3)
                self.assertIs(holds(check, told), slow_holds(check, told), check)


class RightTest(unittest.TestCase):
    def test_versions(self):
        rows = [start("x"), patch(BOB, ("lines", FILE, [X], [], ["b"])), patch(EVE, ("cut", FILE, [X]))]
        patches = set_of(rows)
        for ids, texts in [([], None), ([ANN], ["x"]), ([BOB, ANN], ["x", "b"]), ([ANN, EVE], []), ([EVE, BOB, ANN], ["b"])]:
            self.assertIs(is_right(patches, ids, ("file", A)), texts is not None)
            for text in ["x", "b"]:
                self.assertIs(is_right(patches, ids, ("line", A, text)), text in (texts or []))
            for many in range(3):
                self.assertIs(is_right(patches, ids, ("most", A, many)), len(texts or []) <= many)

    def test_random_versions(self):
        for seed in range(30):
            rng = random.Random(seed)
            rows = random_rows(seed, 10)
            part = closed(rows, rng.sample([row[1] for row in rows], 4))
            told = slow_content({row[1]: row for row in part})
            for _ in range(10):
                check = random_check(rng, 2)
                ids = rng.sample([row[1] for row in part], len(part))
                self.assertIs(is_right(set_of(rows), ids, check), slow_holds(check, told))

    def test_what_is_taken_out_does_not_bear_on_it(self):
        rows = [start("x"), start("y", one=BOB)]
        self.assertIs(is_right(set_of(rows), [ANN], CLEAR), True)
        self.assertIs(is_right(set_of(rows), [ANN, BOB], CLEAR), False)
        self.assertIs(is_right(set_of(rows + [patch(name("dan", 1), ("back", BOB))]), [ANN, BOB], CLEAR), False)


if __name__ == "__main__":
    unittest.main()
