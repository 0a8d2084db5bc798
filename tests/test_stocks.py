"""Points 130 to 133: stocks."""

import random
import unittest

from build import ANN, BOB, EVE, FILE, closed, label, name, patch, random_patch, random_rows, slow_needs, slow_standing, start
from quiltward.blocks import shown
from quiltward.graphs import FileGraph, file_graph
from quiltward.errors import PatchError
from quiltward.patches import check_fits
from quiltward.sets import set_of, with_patch
from quiltward.stocks import (fits_stock, may_forget, rest_of, stock_graph, stock_names, stock_of, stock_tree)
from quiltward.trees import files_of, names, tree

DAN, FAY, GUS = name("dan", 1), name("fay", 1), name("gus", 1)
X, Y, Z = (ANN, 1, 0), (ANN, 1, 1), (ANN, 1, 2)
ONE = start("x", "y", "z")


def vertices(patches):
    """The vertices in the changes of patches."""
    found = set()
    for row in patches.values():
        for change in row[2]:
            if change[0] in ("add", "back"):
                continue
            found.add(change[1])
            for part in change[2:]:
                if isinstance(part, list):
                    found.update(one for one in part if isinstance(one, tuple))
                elif change[0] == "order":
                    found.add(part)
    return found


def slow_may(patches, ids):
    """Whether ids may be forgotten, as point 130 says it."""
    part, rest = {one: patches[one] for one in ids}, {one: patches[one] for one in patches if one not in ids}
    if any(other not in part for row in part.values() for other in slow_needs(row)):
        return False
    if any(("back", one) in row[2] for one in ids for row in rest.values()):
        return False
    stands = slow_standing(part)
    return not any(one[0] in part and one[0] not in stands for one in vertices(rest))


def slow_stock(patches, ids):
    """The stock of ids, as point 131 says it."""
    part, rest = {one: patches[one] for one in ids}, {one: patches[one] for one in patches if one not in ids}
    used, stands, files = vertices(rest), slow_standing(part), {}
    olds = {old for one in stands for change in part[one][2] if change[0] in ("move", "drop") for old in change[-1]}
    for file in files_of(part):
        graph = file_graph(part, file)
        kept = [line for line in sorted(graph.lines) if line in used or line in graph.present]
        made = {file: part[file[0]][2][file[1]][1]}
        for one in sorted(stands):
            for place, change in enumerate(part[one][2]):
                if change[0] == "move" and change[1] == file:
                    made[(one, place, 0)] = change[2]
        called = {one: (made[one], one not in olds) for one in made if one in used or one not in olds}
        if kept or file in used or any(counts for _, counts in called.values()):
            files[file] = (called, {line: graph.lines[line] for line in kept}, [line for line in kept if line in graph.present],
                           {line: [other for other in kept if graph.before(line, other)] for line in kept})
    return "stock", {one: True for one in ids}, files


class MayForgetTest(unittest.TestCase):
    TWO = patch(BOB, ("cut", FILE, [X]), ("lines", FILE, [X], [], ["b"]))
    BACK = patch(EVE, ("back", BOB))

    def test_needs(self):
        whole = set_of([ONE, self.TWO])
        for ids, want in [([], True), ([ANN], True), ([BOB], False), ([BOB, ANN], True)]:
            self.assertIs(may_forget(whole, ids), want)
            self.assertIs(may_forget(whole, {one: True for one in ids}), want)
        self.assertIs(may_forget({}, []), True)

    def test_patches_that_are_taken_back_by_others(self):
        whole = set_of([ONE, self.TWO, self.BACK])
        self.assertIs(may_forget(whole, [ANN]), True)
        self.assertIs(may_forget(whole, [ANN, BOB]), False)
        self.assertIs(may_forget(whole, [ANN, BOB, EVE]), True)
        self.assertIs(may_forget(whole, [ANN, EVE]), False)

    def test_vertices_of_patches_that_do_not_stand(self):
        used = patch(DAN, ("order", FILE, (BOB, 1, 0), X))
        whole = set_of([ONE, self.TWO, self.BACK, used])
        self.assertIs(may_forget(whole, [ANN, BOB, EVE]), False)
        self.assertIs(may_forget(whole, [ANN, BOB, EVE, DAN]), True)
        self.assertIs(may_forget(whole, [ANN]), True)
        # They stand again where what takes them back is taken back, too.
        again = patch(FAY, ("back", EVE))
        whole = set_of([ONE, self.TWO, self.BACK, used, again])
        self.assertIs(may_forget(whole, [ANN, BOB, EVE]), False)
        self.assertIs(may_forget(whole, [ANN, BOB, EVE, FAY]), True)

    def test_whether_the_others_stand_does_not_matter(self):
        rows = [ONE, self.TWO, self.BACK, patch(DAN, ("cut", FILE, [(BOB, 1, 0)])), patch(FAY, ("back", DAN))]
        self.assertIs(may_forget(set_of(rows), [ANN, BOB, EVE]), False)
        self.assertIs(may_forget(set_of(rows[:2] + [patch(GUS, ("back", ANN))]), [ANN, BOB]), False)

    def test_random_sets(self):
        counts = [0, 0]
        for seed in range(120):
            rng = random.Random(seed)
            rows = random_rows(seed, 10)
            whole = set_of(rows)
            for _ in range(6):
                ids = rng.sample(sorted(whole), rng.randint(0, 5))
                if rng.random() < 0.8:
                    ids = [row[1] for row in closed(rows, ids)]
                want = slow_may(whole, ids)
                self.assertIs(may_forget(whole, ids), want)
                counts[want] += 1
        self.assertGreater(min(counts), 100)


class StockTest(unittest.TestCase):
    def test_nothing(self):
        self.assertEqual(stock_of({}, []), ("stock", {}, {}))
        whole = set_of([ONE])
        self.assertEqual(stock_of(whole, []), ("stock", {}, {}))
        self.assertEqual(rest_of(whole, []), whole)
        self.assertEqual(rest_of(whole, {ANN: True}), {})

    def test_one_patch(self):
        whole = set_of([ONE])
        want = ("stock", {ANN: True}, {FILE: ({FILE: (("a",), True)}, {X: "x", Y: "y", Z: "z"}, [X, Y, Z],
                                              {X: [Y, Z], Y: [Z], Z: []})})
        self.assertEqual(stock_of(whole, [ANN]), want)
        self.assertEqual(stock_of(whole, {ANN: True}), want)

    def test_names_that_do_not_count(self):
        rows = [ONE, patch(BOB, ("move", FILE, ("b",), [FILE])), patch(EVE, ("move", FILE, ("c",), [(BOB, 0, 0)]))]
        ids, last = [ANN, BOB, EVE], {(EVE, 0, 0): (("c",), True)}
        self.assertEqual(stock_of(set_of(rows), ids)[2][FILE][0], last)
        other = patch(DAN, ("drop", FILE, [(BOB, 0, 0)]))
        # The file is in this change, so its own name is, which is the same vertex.
        self.assertEqual(stock_of(set_of(rows + [other]), ids)[2][FILE][0],
                         {FILE: (("a",), False), (BOB, 0, 0): (("b",), False), **last})
        # What the others replace counted in the forgotten part.
        other = patch(DAN, ("drop", FILE, [(EVE, 0, 0)]))
        self.assertEqual(stock_of(set_of(rows + [other]), ids)[2][FILE][0], {FILE: (("a",), False), **last})

    def test_names_of_patches_that_do_not_stand(self):
        rows = [ONE, patch(BOB, ("move", FILE, ("b",), [FILE])), patch(EVE, ("back", BOB))]
        self.assertEqual(stock_of(set_of(rows), [ANN, BOB, EVE])[2][FILE][0], {FILE: (("a",), True)})

    def test_lines_that_are_not_present(self):
        rows = [ONE, patch(BOB, ("cut", FILE, [Y, Z]))]
        _, lines, present, order = stock_of(set_of(rows), [ANN, BOB])[2][FILE]
        self.assertEqual((lines, present, order), ({X: "x"}, [X], {X: []}))
        other = patch(DAN, ("lines", FILE, [Z], [], ["d"]))
        _, lines, present, order = stock_of(set_of(rows + [other]), [ANN, BOB])[2][FILE]
        self.assertEqual((lines, present, order), ({X: "x", Z: "z"}, [X], {X: [Z], Z: []}))
        # What the others cut was present.
        other = patch(DAN, ("cut", FILE, [X, Y]))
        _, lines, present, _ = stock_of(set_of(rows + [other]), [ANN, BOB])[2][FILE]
        self.assertEqual((lines, present), ({X: "x", Y: "y"}, [X]))

    def test_lines_in_a_circle(self):
        rows = [ONE, patch(BOB, ("order", FILE, Y, X))]
        self.assertEqual(stock_of(set_of(rows), [ANN, BOB])[2][FILE][3], {X: [X, Y, Z], Y: [X, Y, Z], Z: []})

    def test_files(self):
        gone = [start("x"), patch(BOB, ("drop", FILE, [FILE]), ("cut", FILE, [X]))]
        # A file without names and lines is kept if the others have it.
        self.assertEqual(stock_of(set_of(gone), [ANN, BOB])[2], {})
        other = patch(DAN, ("lines", FILE, [], [], ["d"]))
        self.assertEqual(stock_of(set_of(gone + [other]), [ANN, BOB])[2], {FILE: ({FILE: (("a",), False)}, {}, [], {})})
        # Without names, with a line; without lines, with a name; taken back.
        self.assertEqual(list(stock_of(set_of([gone[0], patch(BOB, ("drop", FILE, [FILE]))]), [ANN, BOB])[2]), [FILE])
        self.assertEqual(stock_of(set_of([patch(ANN, ("add", ("a",)))]), [ANN])[2], {FILE: ({FILE: (("a",), True)}, {}, [], {})})
        self.assertEqual(stock_of(set_of([ONE, patch(BOB, ("back", ANN))]), [ANN, BOB])[2], {})

    def test_random_stocks(self):
        for seed in range(80):
            rng = random.Random(seed)
            rows = random_rows(seed, 10)
            whole = set_of(rows)
            ids = [row[1] for row in closed(rows, rng.sample(sorted(whole), rng.randint(1, 6)))]
            if slow_may(whole, ids):
                self.assertEqual(stock_of(whole, ids), slow_stock(whole, ids))
                self.assertEqual(rest_of(whole, ids), {one: whole[one] for one in whole if one not in ids})


class FitsTest(unittest.TestCase):
    def setUp(self):
        rows = [ONE, patch(BOB, ("cut", FILE, [Y, Z]), ("move", FILE, ("b",), [FILE]), ("add", ("q",))),
                patch(DAN, ("cut", FILE, [X]), ("lines", FILE, [Y], [], ["d"]))]
        self.stock, self.rest = stock_of(set_of(rows), [ANN, BOB]), {DAN: rows[2]}

    def fits(self, want, *changes, one=EVE):
        self.assertIs(fits_stock(self.stock, self.rest, patch(one, *changes)), want, changes)

    def test_ids(self):
        self.fits(True, ("add", ("a",)))
        for one in [ANN, BOB, DAN]:
            self.fits(False, ("add", ("a",)), one=one)
        self.fits(False, ("add", ("a",)), one=name("eve", 1, label(1)))

    def test_what_is_taken_back(self):
        self.fits(True, ("back", DAN))
        self.fits(False, ("back", ANN))
        self.fits(False, ("back", GUS))
        self.fits(False, ("back", DAN), ("back", BOB))

    def test_ids_of_vertices(self):
        self.fits(True, ("cut", FILE, [(DAN, 1, 0)]))
        self.fits(False, ("cut", FILE, [(GUS, 1, 0)]))
        self.fits(False, ("cut", (GUS, 0, 0), [(DAN, 1, 0)]))
        self.fits(False, ("drop", FILE, [(GUS, 0, 0)]))
        self.fits(True, ("add", ("z",)), ("lines", (EVE, 0, 0), [], [], ["x"]), ("cut", (EVE, 0, 0), [(EVE, 1, 0)]))

    def test_files_names_and_lines_that_are_kept(self):
        self.fits(True, ("lines", FILE, [X, (DAN, 1, 0)], [Y], ["x"]))
        self.fits(True, ("order", FILE, Y, X))
        self.fits(False, ("order", FILE, Z, X))
        self.fits(False, ("order", FILE, X, Z))
        self.fits(False, ("cut", FILE, [X, Z]))
        self.fits(False, ("lines", FILE, [Z], [], ["x"]))
        self.fits(False, ("lines", FILE, [], [Z], ["x"]))
        self.fits(True, ("drop", FILE, [(BOB, 1, 0)]))
        self.fits(True, ("move", FILE, ("c",), [FILE, (BOB, 1, 0)]))
        self.fits(False, ("drop", FILE, [(BOB, 0, 0)]))
        self.fits(False, ("drop", FILE, [X]))
        self.fits(False, ("cut", FILE, [FILE]))
        self.fits(False, ("lines", (ANN, 1, 0), [], [], ["x"]))

    def test_names_and_lines_of_another_file(self):
        other = (BOB, 2, 0)
        self.fits(True, ("lines", other, [], [], ["x"]))
        self.fits(True, ("drop", other, [other]))
        self.fits(False, ("lines", other, [X], [], ["x"]))
        self.fits(False, ("drop", other, [(BOB, 1, 0)]))
        self.fits(False, ("drop", FILE, [other]))
        self.fits(False, ("add", ("z",)), ("lines", (EVE, 0, 0), [X], [], ["x"]))

    def test_an_empty_stock(self):
        stock = stock_of({}, [])
        self.assertIs(fits_stock(stock, {}, ONE), True)
        self.assertIs(fits_stock(stock, {}, patch(BOB, ("cut", FILE, [X]))), False)
        self.assertIs(fits_stock(stock, {ANN: ONE}, patch(BOB, ("cut", FILE, [X]))), True)
        self.assertIs(fits_stock(stock, {ANN: ONE}, ONE), False)

    def test_a_file_that_is_not_kept(self):
        rows = [start("x"), patch(BOB, ("drop", FILE, [FILE]), ("cut", FILE, [X]))]
        stock = stock_of(set_of(rows), [ANN, BOB])
        self.assertIs(fits_stock(stock, {}, patch(EVE, ("lines", FILE, [], [], ["x"]))), False)


class GraphTest(unittest.TestCase):
    def check(self, whole, stock, rest):
        """Whether all that is shown of a stock and the rest is what the whole set shows."""
        self.assertEqual(stock_tree(stock, rest), tree(whole))
        for file in files_of(whole):
            graph = stock_graph(stock, rest, file)
            self.assertIsInstance(graph, FileGraph)
            self.assertEqual(shown(graph), shown(file_graph(whole, file)))
            self.assertEqual(stock_names(stock, rest, file), names(whole, file))
            for line in graph.edges:
                self.assertTrue(graph.edges[line])
                self.assertEqual(graph.edges[line], sorted(set(graph.edges[line])))

    def test_a_graph(self):
        rows = [ONE, patch(BOB, ("cut", FILE, [Y])), patch(DAN, ("cut", FILE, [X]), ("lines", FILE, [Y], [Z], ["d", "e"]))]
        whole, d, e = set_of(rows), (DAN, 1, 0), (DAN, 1, 1)
        stock, rest = stock_of(whole, [ANN, BOB]), {DAN: rows[2]}
        graph = stock_graph(stock, rest, FILE)
        self.assertEqual((graph.lines, graph.present, graph.edges),
                         ({X: "x", Y: "y", Z: "z", d: "d", e: "e"}, {Z: True, d: True, e: True},
                          {X: [Y, Z], Y: [Z, d], d: [e], e: [Z]}))
        self.check(whole, stock, rest)

    def test_files_in_the_stock_alone_and_in_the_rest_alone(self):
        rows = [ONE, start("b", one=BOB, path=("b",))]
        whole = set_of(rows)
        stock, rest, other = stock_of(whole, [ANN]), {BOB: rows[1]}, (BOB, 0, 0)
        self.check(whole, stock, rest)
        self.assertEqual(stock_graph(stock, rest, FILE).present_lines(), [X, Y, Z])
        self.assertEqual(stock_graph(stock, rest, other).present_lines(), [(BOB, 1, 0)])
        self.assertEqual((stock_names(stock, rest, FILE), stock_names(stock, rest, other)),
                         ([(("a",), FILE)], [(("b",), other)]))
        self.assertEqual(stock_tree(stock, rest), [(("a",), [FILE]), (("b",), [other])])

    def test_files_in_neither(self):
        stock = stock_of(set_of([ONE]), [ANN])
        for file in [(BOB, 0, 0), (ANN, 1, 0), (GUS, 3, 0)]:
            graph = stock_graph(stock, {}, file)
            self.assertEqual((graph.lines, graph.present, graph.edges), ({}, {}, {}))
            self.assertEqual(stock_names(stock, {}, file), [])

    def test_names(self):
        rows = [ONE, patch(BOB, ("move", FILE, ("b",), [FILE]))]
        whole = set_of(rows)
        stock = stock_of(whole, [ANN, BOB])
        for row, want in [(("drop", FILE, [(BOB, 0, 0)]), []), (("move", FILE, ("c",), [(BOB, 0, 0)]), [("c",)]),
                          (("add", ("c",)), [("b",)])]:
            new = patch(EVE, row)
            self.check(with_patch(whole, new), stock, {EVE: new})
            self.assertEqual([path for path, _ in stock_names(stock, {EVE: new}, FILE)], want)
        # What is taken back replaces nothing.
        rest = {EVE: patch(EVE, ("drop", FILE, [(BOB, 0, 0)])), FAY: patch(FAY, ("back", EVE))}
        self.check({**whole, **rest}, stock, rest)
        self.assertEqual(stock_names(stock, rest, FILE), [(("b",), (BOB, 0, 0))])

    def test_a_patch_of_the_rest_that_does_not_stand(self):
        cut, back = patch(EVE, ("cut", FILE, [X]), ("order", FILE, Z, X)), patch(FAY, ("back", EVE))
        whole = set_of([ONE, cut, back])
        stock = stock_of(whole, [ANN])
        self.check(whole, stock, {EVE: cut, FAY: back})
        self.check(set_of([ONE, cut]), stock, {EVE: cut})
        # Its lines do not stand, but count for those who have them.
        more = [patch(EVE, ("lines", FILE, [X], [Y], ["e"])), back, patch(GUS, ("lines", FILE, [(EVE, 0, 0)], [], ["g"]))]
        self.check(set_of([ONE] + more), stock_of(set_of([ONE] + more), [ANN]), {row[1]: row for row in more})

    def test_further_patches(self):
        grown, refused, kinds = 0, 0, set()
        for seed in range(120):
            rng = random.Random(seed)
            rows = random_rows(seed, 8)
            whole = set_of(rows)
            ids = [row[1] for row in closed(rows, rng.sample(sorted(whole), rng.randint(1, 6)))]
            if not may_forget(whole, ids):
                continue
            stock, rest = stock_of(whole, ids), rest_of(whole, ids)
            self.check(whole, stock, rest)
            for k in range(8):
                new = random_patch(rng, list(whole.values()), name("zed", k + 1))
                if fits_stock(stock, rest, new):
                    whole, rest = with_patch(whole, new), {**rest, new[1]: new}
                    self.check(whole, stock, rest)
                    grown += 1
                    kinds |= {change[0] for change in new[2]}
                else:
                    refused += 1
                    self.assertTrue(self.is_strange(stock, new, ids))
        self.assertGreater(grown, 100)
        self.assertGreater(refused, 50)
        self.assertEqual(kinds, {"add", "move", "drop", "lines", "cut", "order", "back"})

    def is_strange(self, stock, new, ids):
        """Whether a patch takes something forgotten back, or has something in it that was not kept."""
        if any(("back", one) in new[2] for one in ids):
            return True
        for change in new[2]:
            called, lines, _, _ = stock[2].get(change[1], ({}, {}, [], {})) if change[0] not in ("add", "back") else [{}] * 4
            parts = [one for part in change[2:] for one in (part if isinstance(part, list) else [part])]
            parts = [one for one in parts if isinstance(one, tuple) and one[0] in ids]
            if change[0] in ("drop", "move", "lines", "cut", "order"):
                if change[1][0] in ids and change[1] not in stock[2]:
                    return True
                if any(one not in (called if change[0] in ("drop", "move") else lines) for one in parts):
                    return True
        return False

    def test_what_fits_a_stock_fits_the_set(self):
        wrong = 0
        for seed in range(60):
            rng = random.Random(seed)
            rows = random_rows(seed, 8)
            whole = set_of(rows)
            ids = [row[1] for row in closed(rows, rng.sample(sorted(whole), rng.randint(1, 5)))]
            if may_forget(whole, ids):
                stock, rest = stock_of(whole, ids), rest_of(whole, ids)
                for row in random_rows(seed + 500, 6):
                    try:
                        check_fits(whole, row)
                    except PatchError:
                        if all(one[0] not in rest for one in vertices({row[1]: row})):
                            self.assertIs(fits_stock(stock, rest, row), False)
                            wrong += 1
        self.assertGreater(wrong, 20)


if __name__ == "__main__":
    unittest.main()
