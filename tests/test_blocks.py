"""Points 14, 15 and 16: what is shown."""

import itertools
import random
import unittest

from build import ANN, BOB, EVE, FILE, made, name, patch, random_rows, start
from quiltward.blocks import blocks, blocks_right, conflicts, shown, shown_order, shown_texts
from quiltward.graphs import FileGraph, file_graph
from quiltward.sets import set_of
from test_graphs import random_graph, slow_before

A, B, C, D, E = [(ANN, 1, k) for k in range(5)]


def graph_of(present, edges, absent=()):
    lines = {line: f"t{line[2]}" for line in list(present) + list(absent)}
    return FileGraph(lines, {line: True for line in present}, edges)


def slow_strictly(edges, one, other):
    return slow_before(edges, one, other) and not slow_before(edges, other, one)


def slow_blocks(present, edges):
    """What is shown, as points 14 and 16 say it."""
    strict = {(one, other) for one in present for other in present if slow_strictly(edges, one, other)}
    left, rows = set(present), []
    while left:
        block, more = set(), [min(left)]
        while more:
            one = more.pop()
            if one not in block:
                block.add(one)
                more += [other for other in present if (one, other) not in strict and (other, one) not in strict]
        left -= block
        rows.append(block)
    rows = sorted(rows, key=lambda block: sum((min(other), min(block)) in strict for other in rows))
    ordered = []
    for block in rows:
        row = []
        while len(row) < len(block):
            rest = block - set(row)
            row.append(min(one for one in rest if not any((other, one) in strict for other in rest)))
        ordered.append(row)
    return ordered


class ShownTest(unittest.TestCase):
    def check(self, graph, told):
        texts = graph.lines
        self.assertEqual(blocks(graph), told)
        self.assertEqual(shown_order(graph), [line for row in told for line in row])
        self.assertEqual(shown(graph), [[(line, texts[line]) for line in row] for row in told])
        self.assertEqual(conflicts(graph), [row for row in told if len(row) > 1])
        clear = all(len(row) == 1 for row in told)
        self.assertEqual(shown_texts(graph), [texts[row[0]] for row in told] if clear else None)
        self.assertIs(blocks_right(graph, told), True)

    def test_nothing(self):
        self.check(graph_of([], {}), [])
        self.check(graph_of([], {A: [B], B: [A]}, [A, B]), [])

    def test_a_row_of_lines(self):
        self.check(graph_of([A, B, C], {A: [B], B: [C]}), [[A], [B], [C]])
        self.check(graph_of([A, B, C], {C: [B], B: [A]}), [[C], [B], [A]])
        self.check(graph_of([A, B, C], {C: [A, B], A: [B]}), [[C], [A], [B]])

    def test_ways_over_lines_that_are_not_present(self):
        self.check(graph_of([A, B, D], {C: [B], D: [A, C]}, [C]), [[D], [A, B]])
        self.check(graph_of([A, B], {B: [C], C: [D], D: [A]}, [C, D]), [[B], [A]])
        self.check(graph_of([A, B], {A: [C], C: [B, A], B: [C]}, [C]), [[A, B]])

    def test_no_edges(self):
        self.check(graph_of([C, A, B], {}), [[A, B, C]])

    def test_circles(self):
        self.check(graph_of([A, B, C], {A: [B], B: [C], C: [A]}), [[A, B, C]])
        self.check(graph_of([A, B, C, D], {B: [A, C], C: [B]}), [[B, C, A, D]])
        self.check(graph_of([A, B, C, D], {D: [B], B: [C], C: [B, A]}), [[D], [B, C], [A]])
        self.check(graph_of([A], {A: [A]}), [[A]])

    def test_joined_over_others(self):
        self.check(graph_of([A, B, C], {C: [B]}), [[A, C, B]])
        self.check(graph_of([A, B, C, D], {D: [A], C: [B]}), [[C, B, D, A]])
        self.check(graph_of([A, B, C, D, E], {A: [B, D], B: [C], D: [C], C: [E]}), [[A], [B, D], [C], [E]])

    def test_the_least_line_that_may_come(self):
        self.check(graph_of([A, B, C, D], {C: [A], D: [A, B]}), [[C, D, A, B]])
        self.check(graph_of([A, B, C, D, E], {E: [A], B: [C]}), [[B, C, D, E, A]])

    def test_random_graphs(self):
        for seed in range(150):
            rng = random.Random(seed)
            lines, present, edges = random_graph(rng, rng.randint(1, 10), rng.choice([0.05, 0.1, 0.2, 0.3, 0.6]))
            graph = FileGraph(lines, present, edges)
            self.check(graph, slow_blocks(list(present), edges))

    def test_random_orders_with_few_doubts(self):
        for seed in range(80):
            rng = random.Random(seed)
            lines, present, _ = random_graph(rng, 10, 0)
            row = rng.sample(sorted(lines), 10)
            edges = {}
            for one, other in itertools.combinations(row, 2):
                if rng.random() < 0.4 or row.index(other) - row.index(one) == 1 and rng.random() < 0.8:
                    edges.setdefault(one, []).append(other)
            edges = {one: sorted(edges[one]) for one in edges}
            self.check(FileGraph(lines, present, edges), slow_blocks(list(present), edges))

    def test_random_sets(self):
        for seed in range(30):
            patches = set_of(random_rows(seed, 14))
            for file in made(patches.values())[0]:
                graph = file_graph(patches, file)
                self.check(graph, slow_blocks(list(graph.present), graph.edges))

    def test_it_depends_on_the_set_alone(self):
        rows = [start("x", "y"), patch(BOB, ("lines", FILE, [A], [B], ["b"])), patch(EVE, ("lines", FILE, [A], [B], ["e"]))]
        want = [[(A, "x")], [((BOB, 0, 0), "b"), ((EVE, 0, 0), "e")], [(B, "y")]]
        for row in [rows, [rows[0], rows[2], rows[1]]]:
            self.assertEqual(shown(file_graph(set_of(row), FILE)), want)
        rows.append(patch(name("eve", 2), ("order", FILE, (EVE, 0, 0), (BOB, 0, 0))))
        self.assertEqual(shown_texts(file_graph(set_of(rows), FILE)), ["x", "e", "b", "y"])

    def test_many_lines(self):
        rows = [start(*[str(k) for k in range(200)])]
        for number in range(1, 41):
            old = (ANN, 1, 5 * number - 1)
            rows.append(patch(name("bob", number), ("cut", FILE, [old]), ("lines", FILE, [old], [], ["new"] * 5)))
        graph = file_graph(set_of(rows), FILE)
        self.assertEqual(len(shown_order(graph)), 360)
        self.assertTrue(blocks_right(graph, blocks(graph)))


class RightTest(unittest.TestCase):
    def wrong_lists(self, rows):
        """Lists made from the blocks: exchanged, left out, told twice, joined, divided, empty."""
        flat = [(k, at) for k, row in enumerate(rows) for at in range(len(row))]
        for (k, at), (j, to) in itertools.combinations(flat, 2):
            other = [list(row) for row in rows]
            other[k][at], other[j][to] = other[j][to], other[k][at]
            yield other
        for k, at in flat:
            yield rows[:k] + [rows[k][:at] + rows[k][at + 1:]] + rows[k + 1:]
            yield [row for row in rows[:k] + [rows[k][:at] + rows[k][at + 1:]] + rows[k + 1:] if row]
            yield rows[:k] + [rows[k][:at + 1] + rows[k][at:]] + rows[k + 1:]
            yield rows + [[rows[k][at]]]
            if at:
                yield rows[:k] + [rows[k][:at], rows[k][at:]] + rows[k + 1:]
        for k in range(len(rows) - 1):
            yield rows[:k] + [rows[k] + rows[k + 1]] + rows[k + 2:]
            yield rows[:k] + [rows[k + 1], rows[k]] + rows[k + 2:]
        for k in range(len(rows) + 1):
            yield rows[:k] + [[]] + rows[k:]

    def test_only_the_blocks_are_right(self):
        for seed in range(60):
            rng = random.Random(seed)
            lines, present, edges = random_graph(rng, rng.randint(2, 8), rng.choice([0.1, 0.2, 0.4]))
            graph = FileGraph(lines, present, edges)
            rows = blocks(graph)
            self.assertIs(blocks_right(graph, rows), True)
            for other in self.wrong_lists(rows):
                self.assertIs(blocks_right(graph, other), False)
            self.assertIs(blocks_right(graph, []), not rows)


if __name__ == "__main__":
    unittest.main()
