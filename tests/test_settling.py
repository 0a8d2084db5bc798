"""Points 180 to 184: settling conflicts."""

import itertools
import random
import unittest

from build import ANN, BOB, EVE, FILE, name, patch, random_rows, start
from quiltward.blocks import blocks, conflicts, shown_texts
from quiltward.graphs import FileGraph, file_graph
from quiltward.sets import set_of, with_patch
from quiltward.settling import has_circle, jumps, orders_right, potentials, potentials_right, settled, settling
from quiltward.trees import files_of

A, B, C, D, E, F = [(ANN, 1, k) for k in range(6)]


def graph_of(edges, present=(A, B, C, D), lines=(A, B, C, D, E, F)):
    return FileGraph({line: str(line[2]) for line in lines}, {line: True for line in present}, edges)


def random_graph(seed, many=5):
    """A random graph of some lines, some of which are not present, mostly without circles."""
    rng = random.Random(seed)
    lines = [(rng.choice([ANN, BOB, EVE]), 1, k) for k in range(many + 2)]
    rows = rng.sample(lines, len(lines))
    edges = {}
    for k in range(rng.choice([0, 1, 2, 3, 4])):
        i, j = sorted(rng.sample(range(len(rows)), 2))
        edges.setdefault(rows[i], []).append(rows[j])
        if rng.random() < 0.15:
            edges.setdefault(rows[j], []).append(rows[i])
    edges = {line: sorted(set(edges[line])) for line in edges}
    return graph_of(edges, rng.sample(lines, many), lines)


def slow_orders(graph, block):
    """All orders of a block, ascending."""
    return [list(row) for row in itertools.permutations(sorted(block))
            if not any(graph.before(row[j], row[i]) and not graph.before(row[i], row[j])
                       for i in range(len(row)) for j in range(i, len(row)))]


def slow_jumps(graph, order):
    return sum(not (graph.before(one, other) and not graph.before(other, one)) for one, other in zip(order, order[1:]))


def slow_right(graph, block, rows, count):
    """Whether potentials are right, as point 183 says it."""
    def firsts(left):
        return [line for line in left if not any(graph.strictly(one, line) for one in left if one != line)]

    def number(left, last):
        return next((worth for one, other, worth in rows if one == left and other == last), None)
    keys = [(left, last) for left, last, _ in rows]
    if any(keys.count(key) > 1 for key in keys) or any(worth > 0 and not left for left, _, worth in rows):
        return False
    for left, last, worth in rows + [(sorted(block), None, count)]:
        for line in firsts(left):
            behind = number([one for one in left if one != line], line)
            less = 0 if last is None or graph.strictly(last, line) else 1
            if behind is None or behind < worth - less:
                return False
    return True


class OrdersTest(unittest.TestCase):
    def test_has_circle(self):
        self.assertIs(has_circle(graph_of({}), [A, B]), False)
        self.assertIs(has_circle(graph_of({A: [B]}), [A, B]), False)
        self.assertIs(has_circle(graph_of({A: [B], B: [A]}), [A, B]), True)
        self.assertIs(has_circle(graph_of({A: [B], B: [A]}), [A, C]), False)
        self.assertIs(has_circle(graph_of({A: [A]}), [A, B]), False)
        self.assertIs(has_circle(graph_of({A: [A]}), [A]), False)
        # A circle over lines that are not present.
        self.assertIs(has_circle(graph_of({A: [E], E: [B], B: [F], F: [A]}), [A, B]), True)

    def test_orders_right(self):
        graph = graph_of({A: [C]})
        for order, want in [([A, C, B], True), ([A, B, C], True), ([B, A, C], True), ([C, A, B], False), ([C, B, A], False),
                            ([A, C], False), ([A, B, C, C], False), ([A, B, B], False), ([A, B, D], False), ([], False),
                            ([A, B, C, D], False), ([A, B, (BOB, 1, 0)], False)]:
            self.assertIs(orders_right(graph, [A, B, C], order), want, order)
            self.assertIs(orders_right(graph, [C, B, A], order), want)
        self.assertIs(orders_right(graph, [D], [D]), True)
        self.assertIs(orders_right(graph, [], []), True)

    def test_an_order_over_lines_that_are_not_present(self):
        graph = graph_of({A: [E], E: [F], F: [B]})
        self.assertIs(orders_right(graph, [A, B, C], [A, C, B]), True)
        self.assertIs(orders_right(graph, [A, B, C], [B, C, A]), False)
        self.assertEqual(jumps(graph, [A, B, C]), 1)

    def test_orders_in_a_circle(self):
        graph = graph_of({A: [B], B: [A], C: [D]})
        for order, want in [([A, B, C, D], True), ([B, A, C, D], True), ([B, C, A, D], True), ([B, D, A, C], False)]:
            self.assertIs(orders_right(graph, [A, B, C, D], order), want)
        self.assertEqual(jumps(graph, [A, B, C, D]), 2)

    def test_jumps(self):
        graph = graph_of({A: [C], C: [D]})
        for order, want in [([A, C, D, B], 1), ([A, D, C, B], 2), ([A, B, C, D], 2), ([], 0), ([A], 0), ([A, B], 1), ([A, D], 0),
                            ([D, C, A], 2), ([B, A, C, D], 1)]:
            self.assertEqual(jumps(graph, order), want)

    def test_blocks_of_any_size(self):
        lines = [(ANN, 1, k) for k in range(60)]
        graph = graph_of({lines[k]: [lines[k + 1]] for k in range(0, 59, 2)}, lines, lines)
        self.assertIs(has_circle(graph, lines), False)
        self.assertIs(orders_right(graph, lines, lines), True)
        self.assertIs(orders_right(graph, lines, lines[::-1]), False)
        self.assertEqual(jumps(graph, lines), 29)

    def test_random_graphs(self):
        for seed in range(40):
            graph = random_graph(seed)
            for block in blocks(graph):
                orders = slow_orders(graph, block)
                for order in itertools.permutations(block):
                    self.assertIs(orders_right(graph, block, list(order)), list(order) in orders)
                    self.assertEqual(jumps(graph, list(order)), slow_jumps(graph, list(order)))


class SettledTest(unittest.TestCase):
    def test_one_line(self):
        self.assertEqual(settled(graph_of({}), [A]), [A])
        self.assertEqual(settled(graph_of({A: [A]}), [A]), [A])

    def test_two_lines(self):
        self.assertEqual(settled(graph_of({}), [B, A]), [A, B])
        self.assertEqual(settled(graph_of({}), [A, B]), [A, B])
        self.assertIsNone(settled(graph_of({A: [B], B: [A]}), [A, B]))

    def test_several_best_orders(self):
        self.assertEqual(settled(graph_of({}), [C, A, B]), [A, B, C])
        self.assertEqual(settled(graph_of({A: [D], B: [C]}), [A, B, C, D]), [A, D, B, C])
        self.assertEqual(settled(graph_of({D: [A]}), [A, B, C, D]), [B, C, D, A])
        self.assertEqual(settled(graph_of({C: [A], D: [B]}), [A, B, C, D]), [C, A, D, B])

    def test_ways_over_lines_that_are_not_present(self):
        self.assertEqual(settled(graph_of({A: [E], E: [C]}), [A, B, C]), [A, C, B])
        self.assertIsNone(settled(graph_of({A: [E], E: [C], C: [F], F: [A]}), [A, B, C]))

    def test_random_blocks(self):
        circles = 0
        for seed in range(150):
            graph = random_graph(seed)
            for block in blocks(graph):
                told = settled(graph, block)
                if any(one != other and graph.before(one, other) and graph.before(other, one) for one in block for other in block):
                    self.assertIsNone(told)
                    circles += 1
                    continue
                orders = slow_orders(graph, block)
                best = min(slow_jumps(graph, order) for order in orders)
                self.assertEqual(told, [order for order in orders if slow_jumps(graph, order) == best][0])
        self.assertGreater(circles, 3)

    def test_ten_lines(self):
        lines = [(ANN, 1, k) for k in range(10)]
        graph = graph_of({lines[9]: [lines[0]], lines[5]: [lines[4]]}, lines, lines)
        order = settled(graph, lines)
        self.assertEqual(jumps(graph, order), 7)
        self.assertIs(orders_right(graph, lines, order), True)
        self.assertIs(potentials_right(graph, lines, potentials(graph, lines), 7), True)


class SettlingTest(unittest.TestCase):
    def test_no_conflict(self):
        graph = file_graph(set_of([start("x", "y")]), FILE)
        self.assertEqual(settling(graph, FILE), [])
        self.assertEqual(settling(graph_of({}, ()), FILE), [])

    def test_several_conflicts(self):
        graph = graph_of({A: [C, D], B: [C, D]})
        self.assertEqual(blocks(graph), [[A, B], [C, D]])
        self.assertEqual(settling(graph, FILE), [("order", FILE, A, B), ("order", FILE, C, D)])

    def test_one_that_cannot_be_settled(self):
        graph = graph_of({A: [C, D], B: [C, D], C: [D], D: [C]})
        self.assertIsNone(settling(graph, FILE))
        self.assertIsNone(settling(graph_of({A: [B], B: [A]}, (A, B)), FILE))

    def test_only_where_an_order_is_needed(self):
        self.assertEqual(settling(graph_of({A: [C]}, (A, B, C)), FILE), [("order", FILE, C, B)])

    def check(self, whole, file):
        """Whether a file of a set can be settled; what it shows behind that."""
        graph = file_graph(whole, file)
        changes = settling(graph, file)
        if changes is None:
            self.assertTrue(any(settled(graph, block) is None for block in blocks(graph)))
            return False
        want = [line for block in blocks(graph) for line in settled(graph, block)]
        self.assertEqual(len(changes), sum(jumps(graph, settled(graph, block)) for block in blocks(graph)))
        texts = [graph.lines[line] for line in want]
        # In one patch, or each one in its own, in any order.
        parts = [changes[at:at + 12] for at in range(0, len(changes), 12)]
        for rows in [parts, [[change] for change in changes[::-1]]]:
            more = whole
            for k, row in enumerate(rows):
                more = with_patch(more, patch(name("zed", k + 1), *row))
            graph = file_graph(more, file)
            self.assertEqual(blocks(graph), [[line] for line in want])
            self.assertEqual(shown_texts(graph), texts)
        return bool(changes)

    def test_what_is_shown_behind_it(self):
        rows = [start("x", "y")]
        for k, who in enumerate([BOB, EVE, name("fay", 1), name("gus", 1)]):
            rows.append(patch(who, ("lines", FILE, [(ANN, 1, k % 2)], [], ["p", "q"])))
        self.assertTrue(self.check(set_of(rows), FILE))

    def test_random_files(self):
        settled_files = 0
        for seed in range(150):
            whole = set_of(random_rows(seed, 9))
            for file in files_of(whole):
                if all(len(block) <= 10 for block in blocks(file_graph(whole, file))):
                    settled_files += self.check(whole, file)
        self.assertGreater(settled_files, 20)

    def test_fewer_changes_do_not_do_it(self):
        for seed in range(40):
            graph = random_graph(seed, 4)
            changes = settling(graph, FILE)
            pairs = list(itertools.permutations(graph.present_lines(), 2))
            fewer = len(changes) - 1 if changes is not None else 2
            for some in itertools.combinations(pairs, max(0, min(2, fewer))):
                edges = {line: list(graph.edges[line]) for line in graph.edges}
                for one, other in some:
                    edges.setdefault(one, []).append(other)
                other = FileGraph(graph.lines, graph.present, {line: sorted(set(edges[line])) for line in edges})
                if changes is None or changes:
                    self.assertTrue(conflicts(other))


class PotentialsTest(unittest.TestCase):
    def test_the_ones_that_are_returned(self):
        self.assertEqual(potentials(graph_of({}), [A]), [([], A, 0)])
        self.assertEqual(potentials(graph_of({}), [A, B]), [([], A, 0), ([], B, 0), ([A], B, 1), ([B], A, 1)])
        graph = graph_of({A: [C]})
        self.assertEqual(potentials(graph, [C, A, B]), [([], B, 0), ([], C, 0), ([A, C], B, 1), ([B], C, 1), ([B, C], A, 1),
                                                        ([C], A, 0), ([C], B, 1)])

    def test_random_blocks(self):
        for seed in range(30):
            graph = random_graph(seed)
            for block in blocks(graph):
                if settled(graph, block) is None:
                    continue
                least = {}
                for order in slow_orders(graph, block):
                    for k in range(1, len(order) + 1):
                        key = (tuple(sorted(order[k:])), order[k - 1])
                        least[key] = min(slow_jumps(graph, order[k - 1:]), least.get(key, 99))
                want = sorted((list(left), last, least[(left, last)]) for left, last in least)
                rows = potentials(graph, block)
                self.assertEqual(rows, want)
                self.check(random.Random(seed), graph, block, rows, jumps(graph, settled(graph, block)))

    def check(self, rng, graph, block, rows, best):
        self.assertIs(potentials_right(graph, block, rows, best), True)
        self.assertIs(potentials_right(graph, block, rows, best - 1), True)
        self.assertIs(potentials_right(graph, block, rows, best + 1), False)
        self.assertIs(potentials_right(graph, block, rows[::-1], best), True)
        for _ in range(6):
            at = rng.randrange(len(rows))
            left, last, number = rows[at]
            for other in [[], [(left, last, number)] * 2, [(left, last, number + 1)], [(left, last, number - 1)],
                          [(left, rng.choice(block), number)], [(left[1:], last, number)]]:
                given = rows[:at] + other + rows[at + 1:]
                for count in [best, best - 1, 0]:
                    self.assertIs(potentials_right(graph, block, given, count), slow_right(graph, block, given, count))

    def test_wrong_ones(self):
        graph, block = graph_of({A: [C]}), [A, B, C]
        rows = potentials(graph, block)
        self.assertIs(potentials_right(graph, block, rows, 1), True)
        for at, (left, last, number) in enumerate(rows):
            rest = rows[:at] + rows[at + 1:]
            self.assertIs(potentials_right(graph, block, rest, 1), False)
            self.assertIs(potentials_right(graph, block, rows + rows[at:at + 1], 1), False)
            self.assertIs(potentials_right(graph, block, rows + [(left, last, number - 1)], 1), False)
            self.assertIs(potentials_right(graph, block, rest + [(left, last, number + 1)], 1), False)
        # A number where nothing is left.
        self.assertIs(potentials_right(graph, block, [([], B, 1)] + rows[1:], 1), False)
        self.assertIs(potentials_right(graph, [A], [([], A, 1)], 0), False)
        self.assertIs(potentials_right(graph, [A], [([], A, 0)], 1), False)
        self.assertIs(potentials_right(graph, [A], [([], A, 0)], 0), True)
        self.assertIs(potentials_right(graph, [A], [([], A, -1)], 0), False)
        self.assertIs(potentials_right(graph, [A], [([], A, -1)], -1), True)
        self.assertIs(potentials_right(graph, [A], [], 0), False)

    def test_lines_that_are_not_of_the_block(self):
        graph, block = graph_of({}), [A, B]
        rows = potentials(graph, block)
        for other in [([], C, 0), ([C], A, 0), ([], E, 0), ([A, B, C], B, 0), ([B, A], A, 0), ([A, A], B, 0)]:
            self.assertIs(potentials_right(graph, block, rows + [other], 1), False)

    def test_lesser_numbers(self):
        graph, block = graph_of({}), [A, B, C]
        rows = [(left, last, 0) for left, last, _ in potentials(graph, block)]
        self.assertIs(potentials_right(graph, block, rows, 0), True)
        self.assertIs(potentials_right(graph, block, rows, 1), False)
        rows = [(left, last, min(number, 1)) for left, last, number in potentials(graph, block)]
        self.assertIs(potentials_right(graph, block, rows, 1), True)
        self.assertIs(potentials_right(graph, block, rows, 2), False)


if __name__ == "__main__":
    unittest.main()
