"""Point 1: nothing that was passed is modified, what is returned is not shared, and all errors are WardError."""

import copy
import unittest

from build import PUBLIC, label, name, patch, random_rows
from quiltward import blame, blocks, errors, graphs, labels, logs, patches, paths, repos, sets, tapes, trees, written
from quiltward.archives import Archive


def held(value, found):
    """The lists and dicts in a value, by their identities; patches are values that nobody modifies."""
    if isinstance(value, tuple) and value[:1] == ("patch",):
        return found
    if isinstance(value, (list, dict)):
        found[id(value)] = value
    if isinstance(value, dict):
        value = list(value.values())
    if isinstance(value, (list, tuple)):
        for item in value:
            held(item, found)
    return found


class UnmodifiedTest(unittest.TestCase):
    def call(self, deed, *given):
        """The result of a call, or None where it raises an error of the program."""
        before = copy.deepcopy(given)
        try:
            result = deed(*given)
        except errors.WardError:
            result = None
        self.assertEqual(given, before, deed)
        mine, told = held(given, {}), held(result, {})
        self.assertEqual(set(mine) & set(told), set(), deed)
        return result

    def calls_on_sets(self, rows, other):
        whole = self.call(sets.set_of, rows)
        ids = sorted(whole)
        for row in rows + other:
            for deed in [patches.needs, patches.vertex_needs, patches.backs, patches.made_by, patches.check_patch,
                         written.show_patch]:
                self.call(deed, row)
            self.call(patches.check_fits, whole, row)
            self.call(sets.with_patch, whole, row)
        for deed in [sets.is_set, sets.order_of, sets.standing, sets.counted, trees.files_of, trees.tree,
                     trees.conflicts, trees.clear_tree]:
            self.call(deed, whole)
        for one in ids:
            for deed in [sets.without, sets.dependents, sets.all_needs]:
                self.call(deed, whole, one)
        self.call(sets.closure, whole, ids[2:4])
        self.call(sets.order_right, whole, ids)
        second = sets.set_of(other)
        for one, two in [(whole, second), (whole, sets.closure(whole, ids[:2])), (whole, {})]:
            self.call(sets.clashes, one, two)
            self.call(sets.union, one, two)
        return whole

    def test_patches_sets_and_trees(self):
        for seed in range(6):
            self.calls_on_sets(random_rows(seed, 10), random_rows(seed + 50, 3))

    def test_written_forms(self):
        rows = random_rows(3, 5)
        lines = self.call(written.show_patches, rows)
        self.call(written.read_patches, lines)
        self.call(written.read_patches, lines[:-1])
        self.call(written.read_patch, written.show_patch(rows[0]))
        self.call(written.read_patch, ["patch 0.ann.1", "note "])

    def test_files_and_graphs(self):
        for seed in range(6):
            whole = sets.set_of(random_rows(seed, 12))
            for file in trees.files_of(whole):
                for deed in [trees.names, blame.changes_of, blame.lines_in, blame.blame, blame.history, blame.shares,
                             graphs.file_graph]:
                    self.call(deed, whole, file)
                graph = graphs.file_graph(whole, file)
                for line in graph.lines:
                    self.call(blame.whence, whole, file, line)
                    self.call(blame.is_live, whole, file, line)
                before = copy.deepcopy((graph.lines, graph.present, graph.edges))
                mine = held([graph.lines, graph.present, graph.edges], {})
                for deed in [blocks.shown_order, blocks.blocks, blocks.shown, blocks.conflicts, blocks.shown_texts]:
                    told = held(deed(graph), {})
                    self.assertFalse(set(mine) & set(told))
                self.call(lambda rows: blocks.blocks_right(graph, rows), blocks.blocks(graph))
                self.assertIsNot(graph.present_lines(), graph.present_lines())
                self.assertEqual((graph.lines, graph.present, graph.edges), before)

    def test_labels_paths_and_repositories(self):
        rules = [(("a",), label(1)), ((), label(2, 0))]
        self.call(labels.sorted_labels, [label(2), label(1), label(2)])
        for path in [("a",), ("a", "b"), ("c",)]:
            for deed in [paths.rule_at, paths.label_of]:
                self.call(deed, rules, path)
        whole = sets.set_of(random_rows(1, 10, label(1)))
        self.call(repos.files_at, rules, label(1), whole)
        self.call(repos.files_below, rules, {label(1): whole, PUBLIC: {}}, label(7, 0))
        repo = self.call(repos.Repo, rules)
        for row in random_rows(2, 5):
            self.call(repo.put, row)
        told, own = held([repo.space(PUBLIC), repo.labels()], {}), held([repo.spaces, repo.rules], {})
        self.assertFalse(set(told) & set(own))
        self.call(lambda given: Archive().restore(given, PUBLIC).rules, rules)

    def test_tapes_and_logs(self):
        tape = tapes.Tape()
        log = logs.Log(tape, PUBLIC)
        for row in random_rows(5, 6):
            self.call(log.put, row)
        ids = sorted(log.patches)[:2]
        self.call(log.tag, "t", ids)
        self.assertFalse(any(mine is ids for mine in log.tags.values()))
        self.call(tape.begin, log.entries())
        self.call(tape.crash, (3, 4))
        self.call(tapes.read_records, tape.areas[0].data)

    def test_all_errors_are_ward_errors(self):
        one = ("label", 0, ())
        bad = patch(name("ann", 0), ("add", ("a",)))
        tape = tapes.Tape()
        log = logs.Log(tape, one)
        for deed, given in [(patches.check_patch, (bad,)), (sets.with_patch, ({}, bad)), (written.read_patch, ([],)),
                            (tape.mark, ()), (log.out, (name("ann", 1),)), (log.untag, ("t",)), (log.put, (bad,)),
                            (repos.Repo([]).put, (bad,))]:
            with self.assertRaises(errors.WardError):
                deed(*given)


if __name__ == "__main__":
    unittest.main()
