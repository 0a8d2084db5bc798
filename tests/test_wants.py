"""Points 22, 23 and 24: the changes that make texts the shown lines of a file."""

import random
import unittest

from build import ANN, BOB, EVE, FILE, made, name, patch, random_rows, start
from quiltward.blocks import shown, shown_order, shown_texts
from quiltward.graphs import FileGraph, file_graph
from quiltward.scripts import steps_between
from quiltward.sets import set_of, with_patch
from quiltward.wants import in_circles, wanted
from test_graphs import random_graph, slow_before
from test_scripts import slow_kept

A, B, C, D, E = [(ANN, 1, k) for k in range(5)]
DAN = name("dan", 1)


def graph_of(present, edges, absent=()):
    """A graph whose lines have the letters as texts."""
    lines = {line: "abcde"[line[2]] for line in list(present) + list(absent)}
    return FileGraph(lines, {line: True for line in present}, edges)


def slow_circles(graph):
    """The present lines in a circle, as point 22 says it."""
    edges = graph.edges
    return {one: True for one in graph.present for other in graph.present
            if one != other and slow_before(edges, one, other) and slow_before(edges, other, one)}


def changed(graph, changes, one):
    """The graph behind changes of a patch with an id that has them from place 0 on."""
    lines, present = dict(graph.lines), dict(graph.present)
    edges = {line: set(graph.edges[line]) for line in graph.edges}
    for place, change in enumerate(changes):
        if change[0] == "cut":
            for line in change[2]:
                del present[line]
        elif change[0] == "order":
            edges.setdefault(change[2], set()).add(change[3])
        else:
            row = [(one, place, k) for k in range(len(change[4]))]
            lines.update(zip(row, change[4]))
            present.update((line, True) for line in row)
            for a, b in [(up, row[0]) for up in change[2]] + list(zip(row, row[1:])) + [(row[-1], b) for b in change[3]]:
                edges.setdefault(a, set()).add(b)
    return FileGraph(lines, present, {line: sorted(edges[line]) for line in edges})


def random_texts(rng, texts):
    """Texts that are like some others: some of them, with new and doubled ones in between."""
    row = [text for text in texts if rng.random() < 0.8]
    if rng.random() < 0.3:
        rng.shuffle(row)
    for _ in range(rng.randint(0, 3)):
        row.insert(rng.randint(0, len(row)), rng.choice(texts + ["new", ""]))
    return row


class CirclesTest(unittest.TestCase):
    def test_no_circle(self):
        self.assertEqual(in_circles(graph_of([], {})), {})
        self.assertEqual(in_circles(graph_of([A, B, C], {A: [B], B: [C]})), {})

    def test_circles(self):
        self.assertEqual(in_circles(graph_of([A, B, C], {A: [B], B: [A, C]})), {A: True, B: True})
        self.assertEqual(in_circles(graph_of([A, B], {A: [C], C: [B], B: [D], D: [A]}, [C, D])), {A: True, B: True})

    def test_a_line_before_itself_alone(self):
        self.assertEqual(in_circles(graph_of([A], {A: [B], B: [A]}, [B])), {})
        self.assertEqual(in_circles(graph_of([A, C], {A: [B], B: [A, C]}, [B])), {})

    def test_random_graphs(self):
        for seed in range(80):
            rng = random.Random(seed)
            graph = FileGraph(*random_graph(rng, rng.randint(1, 10), rng.choice([0.05, 0.1, 0.2, 0.4])))
            self.assertEqual(in_circles(graph), slow_circles(graph))


class WantedTest(unittest.TestCase):
    row = graph_of([A, B, C], {A: [B], B: [C]})

    def test_no_change(self):
        self.assertEqual(wanted(self.row, FILE, ["a", "b", "c"]), [])
        self.assertEqual(wanted(graph_of([], {}), FILE, []), [])
        self.assertEqual(wanted(graph_of([B], {B: [A], A: [B]}, [A]), FILE, ["b"]), [])

    def test_nothing_wanted(self):
        self.assertEqual(wanted(self.row, FILE, []), [("cut", FILE, [A, B, C])])
        self.assertEqual(wanted(graph_of([C, A], {C: [A]}), FILE, []), [("cut", FILE, [A, C])])

    def test_new_lines(self):
        for texts, change in [(["x", "a", "b", "c"], ("lines", FILE, [], [A], ["x"])),
                              (["a", "x", "y", "b", "c"], ("lines", FILE, [A], [B], ["x", "y"])),
                              (["a", "b", "c", "c", "a"], ("lines", FILE, [C], [], ["c", "a"]))]:
            self.assertEqual(wanted(self.row, FILE, texts), [change])
        self.assertEqual(wanted(graph_of([], {}), FILE, ["x", "y"]), [("lines", FILE, [], [], ["x", "y"])])
        self.assertEqual(wanted(self.row, FILE, ["x", "a", "y", "b", "c", "z"]),
                         [("lines", FILE, [], [A], ["x"]), ("lines", FILE, [A], [B], ["y"]), ("lines", FILE, [C], [], ["z"])])

    def test_cuts_come_first(self):
        self.assertEqual(wanted(self.row, FILE, ["x"]), [("cut", FILE, [A, B, C]), ("lines", FILE, [], [], ["x"])])
        self.assertEqual(wanted(self.row, FILE, ["a", "x", "c"]), [("cut", FILE, [B]), ("lines", FILE, [A], [C], ["x"])])
        # Where a line was cut, the kept lines beside it are in order already.
        self.assertEqual(wanted(self.row, FILE, ["a", "c"]), [("cut", FILE, [B])])

    def test_kept_lines_that_want_an_order(self):
        graph = graph_of([A, B, C], {A: [C]})
        self.assertEqual(wanted(graph, FILE, ["a", "b", "c"]), [("order", FILE, A, B), ("order", FILE, B, C)])
        self.assertEqual(wanted(graph, FILE, ["a", "c"]), [("cut", FILE, [B])])
        self.assertEqual(wanted(graph, FILE, ["b", "c"]), [("cut", FILE, [A]), ("order", FILE, B, C)])
        self.assertEqual(wanted(graph_of([A, B], {}), FILE, ["b", "a"]), [("cut", FILE, [A]), ("lines", FILE, [B], [], ["a"])])

    def test_lines_in_circles_are_never_kept(self):
        graph = graph_of([A, B, C], {A: [B], B: [A, C]})
        self.assertEqual(wanted(graph, FILE, ["a", "b", "c"]), [("cut", FILE, [A, B]), ("lines", FILE, [], [C], ["a", "b"])])
        self.assertEqual(wanted(graph, FILE, ["c"]), [("cut", FILE, [A, B])])

    def test_the_script_goes_from_the_shown_lines(self):
        graph = graph_of([A, B, C], {C: [A], A: [B]})
        self.assertEqual(wanted(graph, FILE, ["c", "a", "b"]), [])
        self.assertEqual(wanted(graph, FILE, ["a", "b", "c"]), [("cut", FILE, [C]), ("lines", FILE, [B], [], ["c"])])

    def test_more_than_200_lines_that_are_cut(self):
        rows = [start(*["x"] * 200)] + [patch(name("bob", k), ("lines", FILE, [], [], ["y"] * 200)) for k in (1, 2)]
        for many, sizes in [(1, [200]), (2, [200, 200]), (3, [200, 200, 200])]:
            graph = file_graph(set_of(rows[:many]), FILE)
            changes = wanted(graph, FILE, [])
            self.assertEqual([len(change[2]) for change in changes], sizes)
            self.assertEqual([line for change in changes for line in change[2]], graph.present_lines())
        graph = file_graph(set_of(rows), FILE)
        changes = wanted(graph, FILE, ["z"] + ["x"] * 150)
        self.assertEqual([change[0] for change in changes[:4]], ["cut", "cut", "cut", "lines"])
        self.assertEqual([len(change[2]) for change in changes[:3]], [200, 200, 50])
        self.assertEqual(shown_texts(changed(graph, changes, DAN)), ["z"] + ["x"] * 150)

    def test_200_new_lines(self):
        texts = [str(k) for k in range(200)]
        self.assertEqual(wanted(self.row, FILE, texts), [("cut", FILE, [A, B, C]), ("lines", FILE, [], [], texts)])

    def check_wants(self, graph, texts):
        """What points 23 and 24 say of the changes; returns them."""
        changes = wanted(graph, FILE, texts)
        after = changed(graph, changes, DAN)
        self.assertEqual(shown_texts(after), texts)
        circles = slow_circles(graph)
        first = [None if line in circles else graph.lines[line] for line in shown_order(graph)]
        lines = [shown_order(graph)[step[1]] for step in steps_between(first, texts) if step[0] == "keep"]
        self.assertEqual([line for line in shown_order(after) if line in graph.lines], lines)
        self.assertEqual(len(lines), slow_kept(first, texts))
        self.assertEqual(changes == [], shown_texts(graph) == texts)
        cuts = [change for change in changes if change[0] == "cut"]
        self.assertEqual(changes[:len(cuts)], cuts)
        return changes

    def test_random_graphs(self):
        for seed in range(300):
            rng = random.Random(seed)
            lines, present, edges = random_graph(rng, rng.randint(0, 10), rng.choice([0.03, 0.08, 0.15, 0.3]))
            lines = {line: rng.choice("abcd") for line in lines}
            graph = FileGraph(lines, present, edges)
            texts = [graph.lines[line] for line in shown_order(graph)]
            for row in [texts, [], random_texts(rng, texts), random_texts(rng, texts), [rng.choice("abcd") for _ in range(5)]]:
                self.check_wants(graph, row)

    def test_random_sets_with_one_patch_or_several_ones(self):
        many = 0
        for seed in range(60):
            rng = random.Random(seed)
            patches = set_of(random_rows(seed, 12))
            for file in made(patches.values())[0]:
                graph = file_graph(patches, file)
                texts = random_texts(rng, [text for block in shown(graph) for _, text in block])
                changes = wanted(graph, file, texts)
                for size in [12, 1, 2]:
                    after = patches
                    for at in range(0, len(changes), size):
                        after = with_patch(after, patch(name("zed", at + 1), *changes[at:at + size]))
                    if file[0] in graph.present or graph.present or changes:
                        many += 1
                    self.assertEqual(shown_texts(file_graph(after, file)), texts)
                    self.assertEqual(wanted(file_graph(after, file), file, texts), [])
        self.assertGreater(many, 100)

    def test_a_conflict_is_settled(self):
        rows = [start("x", "y")] + [patch(who, ("lines", FILE, [A], [B], [who[1]])) for who in [BOB, EVE]]
        patches = set_of(rows)
        graph = file_graph(patches, FILE)
        self.assertIsNone(shown_texts(graph))
        for texts, changes in [(["x", "bob", "eve", "y"], [("order", FILE, (BOB, 0, 0), (EVE, 0, 0))]),
                               (["x", "bob", "y"], [("cut", FILE, [(EVE, 0, 0)])]),
                               (["x", "bob", "-", "eve", "y"], [("lines", FILE, [(BOB, 0, 0)], [(EVE, 0, 0)], ["-"])])]:
            self.assertEqual(wanted(graph, FILE, texts), changes)
            self.assertEqual(shown_texts(file_graph(with_patch(patches, patch(DAN, *changes)), FILE)), texts)


if __name__ == "__main__":
    unittest.main()
