"""The examples of the interface, exactly as they stand in the document, and those of README.md."""

import os
import unittest

from examples import run_examples

README = os.path.join(os.path.dirname(os.path.dirname(os.path.abspath(__file__))), "README.md")

PATCHES = """
>>> from quiltward.patches import check_fits, needs
>>> one = ((("label", 0, ()), "ann", 1))
>>> first = ("patch", one, [("add", ("a",)), ("lines", (one, 0, 0), [], [], ["x", "y"])], "start")
>>> other = ("patch", (("label", 0, ()), "bob", 1), [("cut", (one, 0, 0), [(one, 1, 1)]), ("back", one)], "")
>>> needs(other) == [one], check_fits({one: first}, other)
(True, None)
>>> check_fits({}, other)
raises PatchError(0)
"""

SETS = """
>>> from quiltward.sets import order_of, set_of, standing
>>> one, two = (("label", 0, ()), "ann", 1), (("label", 0, ()), "ann", 2)
>>> patches = set_of([("patch", one, [("add", ("a",))], ""), ("patch", two, [("back", one)], "")])
>>> order_of(patches) == [one, two], standing(patches) == {two: True}
(True, True)
"""

WRITTEN = """
>>> from quiltward.written import read_label, read_vertex, show_patch
>>> ann, bo = (("label", 1, ()), "ann", 2), (("label", 1, ()), "bo", 1)
>>> show_patch(("patch", ann, [("lines", (bo, 0, 0), [], [], ["hi"])], ""))
['patch 1.ann.2', 'note ', 'lines 1.bo.1.0.0 - - 1', '|hi', 'end']
>>> [read_label("3:20"), read_label("8"), read_vertex("0.bo.1.0.200"), read_vertex("0.bo.01.0.0")]
[None, None, None, None]
"""

PATHS = """
>>> from quiltward.labels import is_below
>>> from quiltward.paths import label_of, parse_path
>>> is_below(("label", 1, (2,)), ("label", 3, (0, 2))), parse_path("a/b7"), parse_path("a//b")
(True, ('a', 'b7'), None)
>>> label_of([(("a",), ("label", 2, ())), ((), ("label", 1, (0,)))], ("a", "b"))
('label', 2, ())
"""

TREES = """
>>> from quiltward.sets import set_of
>>> from quiltward.trees import conflicts, tree
>>> one, two, three = [(("label", 0, ()), name, 1) for name in ["ann", "bob", "eve"]]
>>> file = (one, 0, 0)
>>> rows = [("patch", one, [("add", ("a",))], "")] + [("patch", who, [("move", file, path, [file])], "") for who, path in [(two, ("b",)), (three, ("c", "d"))]]
>>> [path for path, files in tree(set_of(rows))], conflicts(set_of(rows))[0][0]
([('b',), ('c', 'd')], 'names')
"""

TAPES = """
>>> from quiltward.tapes import Tape, read_records, record_text
>>> read_records(record_text(2, "a:b") + "3 0:")[0]
[(2, 'a:b')]
>>> tape = Tape()
>>> for text in ["a", "b"]:
...     tape.append(text)
>>> tape.sync()
>>> tape.append("c")
>>> tape.crash((3, 0))
>>> tape.recover()
['a', 'b']
"""

BLOCKS = """
>>> from quiltward.blocks import blocks, shown_texts
>>> from quiltward.graphs import FileGraph
>>> a, b, c, d = [((("label", 0, ()), "ann", 1), 1, k) for k in range(4)]
>>> graph = FileGraph({a: "a", b: "b", c: "c", d: "d"}, {a: True, b: True, d: True}, {c: [b], d: [a, c]})
>>> blocks(graph) == [[d], [a, b]], shown_texts(graph), graph.before(d, b), graph.apart(a, b)
(True, None, True, True)
"""

COMMUTING = """
>>> from quiltward.commuting import after_swaps, swaps_between
>>> rows = [("patch", (("label", 0, ()), "ann", k), [("add", ("f",))], "") for k in [1, 2, 3]]
>>> swaps_between(rows, rows[::-1]), after_swaps(rows, [1, 0, 1]) == rows[::-1]
([1, 0, 1], True)
"""

GUESSING = """
>>> from quiltward.guessing import Yard
>>> one, two = [(("label", 0, ()), "ann", k) for k in [1, 2]]
>>> patches = {one: ("patch", one, [("add", ("a",))], ""), two: ("patch", two, [("add", ("b",))], "")}
>>> yard = Yard(patches, [], [one, two], 2, [])
>>> yard.wanted() == [[one], [one, two]], yard.answer([one, two], True), yard.report()
(True, None, [])
>>> yard.answer([one], False), yard.wanted() == [[two]], yard.counts()
(None, True, (2, 1, 1))
"""

SCRIPTS = """
>>> from quiltward.scripts import levels, steps_between
>>> steps_between(["a", "b", "c"], ["b", "x", "c", "b"])
[('cut', 0), ('keep', 1, 0), ('put', 1), ('keep', 2, 2), ('put', 3)]
>>> levels(["a", "b", "c"], ["b", "x", "c", "b"])
[[(1, 0), (1, 3)], [(2, 2)]]
"""

WANTS = """
>>> from quiltward.graphs import FileGraph
>>> from quiltward.wants import wanted
>>> file, a, b, c = [((("label", 0, ()), "ann", 1), 1, k) for k in range(4)]
>>> graph = FileGraph({a: "a", b: "b", c: "c"}, {a: True, b: True, c: True}, {a: [c]})
>>> wanted(graph, file, ["a", "b", "x", "c"]) == [("order", file, a, b), ("lines", file, [b], [c], ["x"])]
True
"""

MEANINGS = """
>>> from quiltward.meanings import merged_lines
>>> merged_lines(["a = 1", "b"], ["b", "a = 1", "c = 2"], ["b", "  d = 3"])
('lines', ['b', '  d = 3', 'c = 2'])
>>> merged_lines(["a = 1"], ["a = 2"], ["a = 3"])
('clash', [('a',)])
"""

QUORUMS = """
>>> from quiltward.quorums import apart, blockers, quorums
>>> rules = [("some", 2, ["ann", "bob", "eve"], True)]
>>> quorums(rules, "ann"), blockers(rules, "ann") == quorums(rules, "ann"), apart(rules, "ann")
([['ann', 'bob'], ['ann', 'eve'], ['bob', 'eve']], True, None)
>>> blockers([("some", 1, ["ann", "bob"], True)], "eve"), apart([("some", 1, ["ann", "bob"], True)], "eve")
([['ann', 'bob']], (['ann'], ['bob']))
"""

SCRIPT = r"""
>>> from quiltward.script import run_script
>>> run_script("rule - 0\nrule s 3\nhand ann 3\nhand bo 0\nstart\nann put s/a\n|secret\n.\nann put f\n|hi\n.\nann record one\nbo update\nbo paths\nbo show s/a")
['ok', 'ok', 'recorded 2', '0 0.ann.1', '3 3.ann.1', 'updated 0', 'paths 1', 'f 1', 'refused denied']
"""

SEARCHING = """
>>> from quiltward.searching import depth, plan, shield
>>> a, b, c = [(("label", 0, ()), "ann", k) for k in [1, 2, 3]]
>>> causes, tests = [[a], [b], [c], [b, c]], [[a], [a, b], [a, c]]
>>> one, other = ("test", 0, ("found", [[a]]), ("found", [[b]])), ("test", 2, ("found", [[c]]), ("found", [[b, c]]))
>>> plan(causes, tests) == ("test", 1, one, other), depth(plan(causes, tests)), shield(causes, tests)[0] == (causes, 2)
(True, 2, True)
"""

SETTLING = """
>>> from quiltward.graphs import FileGraph
>>> from quiltward.settling import jumps, potentials_right, potentials, settled
>>> a, b, c = [((("label", 0, ()), "ann", 1), 1, k) for k in range(3)]
>>> graph = FileGraph({a: "a", b: "b", c: "c"}, {a: True, b: True, c: True}, {a: [c]})
>>> order = settled(graph, [a, b, c])
>>> order == [a, c, b], jumps(graph, order), jumps(graph, [a, b, c])
(True, 1, 2)
>>> potentials_right(graph, [a, b, c], potentials(graph, [a, b, c]), 1)
True
"""

VOUCHING = """
>>> from quiltward.sets import set_of
>>> from quiltward.vouching import accepted, wanting, with_record
>>> one = (("label", 0, ()), "ann", 1)
>>> patches = set_of([("patch", one, [("add", ("a",))], "")])
>>> rules = [("some", 1, ["ann", "bob", "eve"], False), ("none", ["bob"])]
>>> records = with_record({}, ("ann", 1), ("agree", one))
>>> accepted(patches, rules, records), wanting(patches, rules, records, one) == [(one, ["bob"])]
({}, True)
>>> accepted(patches, rules, with_record(records, ("eve", 7), ("agree", one))) == patches
True
"""


class ExamplesTest(unittest.TestCase):
    def test_patches(self):
        run_examples(self, PATCHES)

    def test_sets(self):
        run_examples(self, SETS)

    def test_written(self):
        run_examples(self, WRITTEN)

    def test_paths(self):
        run_examples(self, PATHS)

    def test_trees(self):
        run_examples(self, TREES)

    def test_tapes(self):
        run_examples(self, TAPES)

    def test_blocks(self):
        run_examples(self, BLOCKS)

    def test_commuting(self):
        run_examples(self, COMMUTING)

    def test_guessing(self):
        run_examples(self, GUESSING)

    def test_scripts(self):
        run_examples(self, SCRIPTS)

    def test_wants(self):
        run_examples(self, WANTS)

    def test_meanings(self):
        run_examples(self, MEANINGS)

    def test_quorums(self):
        run_examples(self, QUORUMS)

    def test_script(self):
        run_examples(self, SCRIPT)

    def test_searching(self):
        run_examples(self, SEARCHING)

    def test_settling(self):
        run_examples(self, SETTLING)

    def test_vouching(self):
        run_examples(self, VOUCHING)

    def test_readme(self):
        with open(README, encoding="ascii") as source:
            parts = [part for part in source.read().split("```\n")[1::2] if part.startswith(">>> ")]
        self.assertEqual(len(parts), 7)
        run_examples(self, "".join(parts))


if __name__ == "__main__":
    unittest.main()
