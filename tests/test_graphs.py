"""Points 11, 12 and 13: file graphs."""

import copy
import random
import unittest

from build import ANN, BOB, EVE, FILE, made, name, patch, random_rows, slow_counted, slow_standing, start
from quiltward.blocks import blocks
from quiltward.graphs import FileGraph, file_graph
from quiltward.sets import set_of

X, Y, Z = [(ANN, 1, k) for k in range(3)]
LINES = [(ANN, place, k) for place in (1, 2) for k in range(6)]


def slow_before(edges, one, other):
    """Whether one or more edges lead from a line to another one."""
    found, left = set(), list(edges.get(one, []))
    while left:
        line = left.pop()
        if line not in found:
            found.add(line)
            left.extend(edges.get(line, []))
    return other in found


def random_graph(rng, many, chance):
    """The three arguments of a graph with edges in any direction."""
    lines = {line: f"t{k}" for k, line in enumerate(rng.sample(LINES, many))}
    present = {line: True for line in lines if rng.random() < 0.7}
    edges = {}
    for one in lines:
        row = sorted(other for other in lines if other != one and rng.random() < chance)
        if row:
            edges[one] = row
    return lines, present, edges


class FileGraphTest(unittest.TestCase):
    def test_before(self):
        lines = {line: "" for line in [X, Y, Z]}
        graph = FileGraph(lines, {X: True, Z: True}, {X: [Y], Y: [Z]})
        self.assertEqual([graph.before(X, Y), graph.before(X, Z), graph.before(Z, X), graph.before(X, X)],
                         [True, True, False, False])
        self.assertEqual([graph.strictly(X, Z), graph.strictly(Z, X), graph.apart(X, Z), graph.apart(X, X)],
                         [True, False, False, True])
        self.assertEqual(graph.present_lines(), [X, Z])

    def test_circles(self):
        lines = {line: "" for line in [X, Y, Z]}
        graph = FileGraph(lines, {X: True}, {X: [Y], Y: [X, Z]})
        self.assertEqual([graph.before(X, X), graph.before(Y, Y), graph.before(Z, Z)], [True, True, False])
        self.assertEqual([graph.strictly(X, Y), graph.apart(X, Y), graph.strictly(X, Z), graph.strictly(X, X)],
                         [False, True, True, False])

    def test_no_lines(self):
        graph = FileGraph({}, {}, {})
        self.assertEqual((graph.lines, graph.present, graph.edges, graph.present_lines()), ({}, {}, {}, []))

    def test_random_graphs(self):
        for seed in range(60):
            rng = random.Random(seed)
            lines, present, edges = random_graph(rng, rng.randint(1, 9), rng.choice([0.05, 0.15, 0.3, 0.6]))
            graph = FileGraph(lines, present, edges)
            self.assertEqual((graph.lines, graph.present, graph.edges), (lines, present, edges))
            self.assertEqual(graph.present_lines(), sorted(present))
            for one in lines:
                for other in lines:
                    ahead, back = slow_before(edges, one, other), slow_before(edges, other, one)
                    self.assertIs(graph.before(one, other), ahead)
                    self.assertIs(graph.strictly(one, other), ahead and not back)
                    self.assertIs(graph.apart(one, other), not (ahead and not back) and not (back and not ahead))

    def test_long_ways(self):
        lines = {(name("ann", k), 1, 0): "" for k in range(1, 2001)}
        row = sorted(lines)
        graph = FileGraph(lines, {row[0]: True}, {row[k]: [row[k + 1]] for k in range(1999)})
        self.assertTrue(graph.strictly(row[0], row[-1]))
        self.assertFalse(graph.before(row[-1], row[0]))

    def test_a_graph_does_not_share_what_it_was_given(self):
        lines, present, edges = {X: "x", Y: "y"}, {X: True}, {X: [Y]}
        graph = FileGraph(lines, present, edges)
        lines[Z], present[Y] = "z", True
        edges[X].clear()
        self.assertEqual((graph.lines, graph.present, graph.edges), ({X: "x", Y: "y"}, {X: True}, {X: [Y]}))
        self.assertTrue(graph.before(X, Y))


class OfSetsTest(unittest.TestCase):
    def setUp(self):
        self.rows = [start("x", "y", "z"), patch(BOB, ("lines", FILE, [X], [Y], ["b", "c"]), ("cut", FILE, [Y])),
                     patch(EVE, ("order", FILE, Z, X), ("add", ("e",)), ("lines", (EVE, 1, 0), [], [], ["e"]))]

    def told(self, rows):
        graph = file_graph(set_of(rows), FILE)
        return graph.lines, graph.present_lines(), graph.edges

    def test_lines_and_edges(self):
        b, c = (BOB, 0, 0), (BOB, 0, 1)
        self.assertEqual(self.told(self.rows), ({X: "x", Y: "y", Z: "z", b: "b", c: "c"}, [X, Z, b, c],
                                                {X: [Y, b], Y: [Z], b: [c], c: [Y], Z: [X]}))

    def test_an_order_that_was_taken_back_is_no_edge(self):
        lines, present, edges = self.told(self.rows + [patch(name("eve", 2), ("back", EVE))])
        self.assertEqual((len(lines), len(present), edges.get(Z)), (5, 4, None))

    def test_lines_that_were_taken_back_have_edges_if_they_count(self):
        b, c = (BOB, 0, 0), (BOB, 0, 1)
        back = patch(name("eve", 2), ("back", BOB))
        lines, present, edges = self.told(self.rows + [back])
        self.assertEqual((lines[b], present, edges), ("b", [X, Y, Z], {X: [Y], Y: [Z], Z: [X]}))
        below = patch(name("dan", 1), ("lines", FILE, [c], [], ["d"]))
        lines, present, edges = self.told(self.rows + [below, back])
        self.assertEqual((present, edges[c]), ([X, Y, Z, (name("dan", 1), 0, 0)], [Y, (name("dan", 1), 0, 0)]))
        self.assertEqual((edges[X], edges[b]), ([Y, b], [c]))

    def test_a_second_file_of_the_same_set(self):
        patches, e = set_of(self.rows), (EVE, 2, 0)
        graph = file_graph(patches, (EVE, 1, 0))
        self.assertEqual((graph.lines, graph.present, graph.edges), ({e: "e"}, {e: True}, {}))
        self.assertFalse(graph.before(e, e))
        gone = file_graph(set_of(self.rows + [patch(name("eve", 2), ("back", EVE))]), (EVE, 1, 0))
        self.assertEqual((gone.lines, gone.present, gone.edges), ({e: "e"}, {}, {}))

    def test_a_cut_that_was_taken_back_cuts_nothing(self):
        rows = self.rows + [patch(name("eve", 2), ("back", BOB))]
        self.assertEqual(self.told(rows)[1], [X, Y, Z])
        rows.append(patch(name("eve", 3), ("back", name("eve", 2))))
        self.assertEqual(self.told(rows), self.told(self.rows))

    def test_ways_over_lines_that_are_not_present(self):
        b, c = (BOB, 0, 0), (BOB, 0, 1)
        rows = self.rows[:2] + [patch(EVE, ("cut", FILE, [b, c]))]
        graph = file_graph(set_of(rows), FILE)
        self.assertEqual(graph.present_lines(), [X, Z])
        self.assertEqual([graph.strictly(X, Z), graph.strictly(X, c), graph.strictly(b, Z), graph.before(Z, X)],
                         [True, True, True, False])

    def test_a_circle_of_orders(self):
        graph = file_graph(set_of(self.rows), FILE)
        for one in [X, Y, Z, (BOB, 0, 0)]:
            self.assertTrue(graph.before(one, one))
            self.assertFalse(graph.strictly(one, one))
            self.assertTrue(all(graph.apart(one, other) for other in [X, Y, Z]))

    def test_asking_changes_nothing(self):
        graph = file_graph(set_of(self.rows), FILE)
        before = copy.deepcopy(vars(graph))
        for _ in range(2):
            for one in graph.lines:
                for other in graph.lines:
                    graph.before(one, other), graph.strictly(one, other), graph.apart(one, other)
            graph.present_lines().append(None)
            blocks(graph)
            self.assertEqual(vars(graph), before)

    def test_random_sets(self):
        for seed in range(40):
            patches = set_of(random_rows(seed, 12))
            stands, counts = slow_standing(patches), slow_counted(patches)
            for file in made(patches.values())[0]:
                lines, pairs, cuts = {}, set(), set()
                for one in patches:
                    for place, change in enumerate(patches[one][2]):
                        if change[1] != file:
                            continue
                        if change[0] == "cut" and one in stands:
                            cuts |= set(change[2])
                        if change[0] == "order" and one in stands:
                            pairs.add(change[2:])
                        if change[0] == "lines":
                            row = [(one, place, k) for k in range(len(change[4]))]
                            lines.update(zip(row, change[4]))
                            if one in counts:
                                pairs |= set(zip(row, row[1:])) | {(up, row[0]) for up in change[2]}
                                pairs |= {(row[-1], down) for down in change[3]}
                graph = file_graph(patches, file)
                self.assertEqual(graph.lines, lines)
                self.assertEqual(graph.present, {line: True for line in lines if line[0] in stands and line not in cuts})
                self.assertEqual(graph.edges, {one: sorted(b for a, b in pairs if a == one) for one, _ in pairs})


if __name__ == "__main__":
    unittest.main()
