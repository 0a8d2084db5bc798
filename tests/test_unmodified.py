"""Point 1: nothing that was passed is modified, what is returned is not shared, and all errors are WardError."""

import copy
import random
import unittest

from build import PUBLIC, label, name, patch, random_rows
from queues import random_case
from quiltward import (blame, blocks, bundles, checks, commuting, errors, graphs, halving, labels, logs, patches, paths,
                       projecting, reclassing, repos, scripts, sessions, sets, splitting, tapes, trains, trees, wants,
                       written)
from quiltward.archives import Archive
from quiltward.guessing import Yard
from test_scripts import lists
from work import HIGH, MID, SIDE, WORK_PATHS, all_ids, busy_repo, random_deed, state


def held(value, found):
    """The lists and dicts in a value, by their identities; patches are values that nobody modifies."""
    if isinstance(value, tuple) and value[:1] == ("patch",):
        return found
    if isinstance(value, (list, dict)):
        found[id(value)] = value
    if isinstance(value, dict):
        value = list(value.values())
    if isinstance(value, (list, tuple)):
        for item in value:
            held(item, found)
    return found


class UnmodifiedTest(unittest.TestCase):
    def call(self, deed, *given):
        """The result of a call, or None where it raises an error of the program."""
        before = copy.deepcopy(given)
        try:
            result = deed(*given)
        except errors.WardError:
            result = None
        self.assertEqual(given, before, deed)
        mine, told = held(given, {}), held(result, {})
        self.assertEqual(set(mine) & set(told), set(), deed)
        return result

    def calls_on_sets(self, rows, other):
        whole = self.call(sets.set_of, rows)
        ids = sorted(whole)
        for row in rows + other:
            for deed in [patches.needs, patches.vertex_needs, patches.backs, patches.made_by, patches.check_patch,
                         written.show_patch]:
                self.call(deed, row)
            self.call(patches.check_fits, whole, row)
            self.call(sets.with_patch, whole, row)
        for deed in [sets.is_set, sets.order_of, sets.standing, sets.counted, trees.files_of, trees.tree,
                     trees.conflicts, trees.clear_tree]:
            self.call(deed, whole)
        for one in ids:
            for deed in [sets.without, sets.dependents, sets.all_needs]:
                self.call(deed, whole, one)
        self.call(sets.closure, whole, ids[2:4])
        self.call(sets.order_right, whole, ids)
        second = sets.set_of(other)
        for one, two in [(whole, second), (whole, sets.closure(whole, ids[:2])), (whole, {})]:
            self.call(sets.clashes, one, two)
            self.call(sets.union, one, two)
        return whole

    def test_patches_sets_and_trees(self):
        for seed in range(6):
            self.calls_on_sets(random_rows(seed, 10), random_rows(seed + 50, 3))

    def test_written_forms(self):
        rows = random_rows(3, 5)
        lines = self.call(written.show_patches, rows)
        self.call(written.read_patches, lines)
        self.call(written.read_patches, lines[:-1])
        self.call(written.read_patch, written.show_patch(rows[0]))
        self.call(written.read_patch, ["patch 0.ann.1", "note "])

    def test_files_and_graphs(self):
        for seed in range(6):
            whole = sets.set_of(random_rows(seed, 12))
            for file in trees.files_of(whole):
                for deed in [trees.names, blame.changes_of, blame.lines_in, blame.blame, blame.history, blame.shares,
                             graphs.file_graph]:
                    self.call(deed, whole, file)
                graph = graphs.file_graph(whole, file)
                for line in graph.lines:
                    self.call(blame.whence, whole, file, line)
                    self.call(blame.is_live, whole, file, line)
                before = copy.deepcopy((graph.lines, graph.present, graph.edges))
                mine = held([graph.lines, graph.present, graph.edges], {})
                for deed in [blocks.shown_order, blocks.blocks, blocks.shown, blocks.conflicts, blocks.shown_texts]:
                    told = held(deed(graph), {})
                    self.assertFalse(set(mine) & set(told))
                self.call(lambda rows: blocks.blocks_right(graph, rows), blocks.blocks(graph))
                self.assertIsNot(graph.present_lines(), graph.present_lines())
                self.assertEqual((graph.lines, graph.present, graph.edges), before)

    def test_labels_paths_and_repositories(self):
        rules = [(("a",), label(1)), ((), label(2, 0))]
        self.call(labels.sorted_labels, [label(2), label(1), label(2)])
        for path in [("a",), ("a", "b"), ("c",)]:
            for deed in [paths.rule_at, paths.label_of]:
                self.call(deed, rules, path)
        whole = sets.set_of(random_rows(1, 10, label(1)))
        self.call(repos.files_at, rules, label(1), whole)
        self.call(repos.files_below, rules, {label(1): whole, PUBLIC: {}}, label(7, 0))
        repo = self.call(repos.Repo, rules)
        for row in random_rows(2, 5):
            self.call(repo.put, row)
        told, own = held([repo.space(PUBLIC), repo.labels()], {}), held([repo.spaces, repo.rules], {})
        self.assertFalse(set(told) & set(own))
        self.call(lambda given: Archive().restore(given, PUBLIC).rules, rules)

    def test_tapes_and_logs(self):
        tape = tapes.Tape()
        log = logs.Log(tape, PUBLIC)
        for row in random_rows(5, 6):
            self.call(log.put, row)
        ids = sorted(log.patches)[:2]
        self.call(log.tag, "t", ids)
        self.assertFalse(any(mine is ids for mine in log.tags.values()))
        self.call(tape.begin, log.entries())
        self.call(tape.crash, (3, 4))
        self.call(tapes.read_records, tape.areas[0].data)

    def test_bundles(self):
        for seed in range(6):
            whole = sets.set_of(random_rows(seed, 8))
            text = self.call(bundles.make_bundle, PUBLIC, whole, sorted(whole)[:2])
            self.call(bundles.read_bundle, text)
            for mine in [{}, whole, sets.closure(whole, sorted(whole)[:1]), sets.set_of(random_rows(seed + 9, 2))]:
                self.call(bundles.take_bundle, mine, text)
                self.call(bundles.take_bundle, mine, text + "x")

    def test_changing_places(self):
        for seed in range(6):
            rows = random_rows(seed, 8)
            whole = sets.set_of(rows)
            other = [whole[one] for one in commuting.order_with(whole, sorted(whole)[0])]
            swaps = self.call(commuting.swaps_between, rows, other)
            for given in [swaps, [], [99]]:
                self.call(commuting.after_swaps, rows, given)
            for at in range(-1, 8):
                self.call(commuting.swapped, rows, at)
            self.call(commuting.count_orders, whole)
            for one in whole:
                self.call(commuting.parted, whole, one)
                self.call(commuting.order_with, whole, one)
                self.call(commuting.independent, whole[one], rows[0])
                back = self.call(commuting.inverse, whole[one], name("zed", 1), "")
                self.assertIsNot(back[2], whole[one][2])

    def test_checks_trains_and_halves(self):
        for seed in range(20):
            given = random_case(seed)
            whole, main, queue, check = given
            told = self.call(checks.content, whole)
            self.call(checks.holds, check, told)
            self.call(checks.is_right, whole, main, check)
            report, line = self.call(trains.train, *given)
            self.call(trains.line_of, main, report)
            self.call(trains.report_right, *given, report)
            self.call(trains.report_right, *given, report[1:])
            line, tests = self.call(halving.halved, *given)[1:]
            self.assertFalse(set(held(line, {})) & set(held(tests, {})))
            self.call(halving.halves_right, whole, main, check, line, tests)

    def test_yards(self):
        for seed in range(20):
            whole, main, queue, check = random_case(seed)
            yard = self.call(Yard, whole, main, queue, 3, queue[:1])
            told = []
            while yard.wanted():
                told += [yard.wanted(), yard.main_line(), yard.report()]
                version = told[-3][0]
                self.call(yard.answer, version, checks.is_right(whole, version, check))
            own = held(list(vars(yard).values()), {})
            self.assertFalse(set(held(told, {})) & set(own))
            self.assertFalse(set(held([main, queue], {})) & set(own))
            with self.assertRaises(errors.StepError) as caught:
                version = [name("zed", 1)]
                yard.answer(version, True)
            self.assertIsNot(caught.exception.step, version)

    def test_scripts_and_wants(self):
        for seed in range(20):
            one, other = lists(seed)
            steps, rows = self.call(scripts.steps_between, one, other), self.call(scripts.levels, one, other)
            self.call(scripts.script_right, one, other, steps)
            self.call(scripts.kept, steps)
            for given in [rows, rows[1:], rows + [[(0, 0)]]]:
                self.call(scripts.levels_right, one, other, given)
                self.call(scripts.fewest, one, other, steps, given)
        for seed in range(6):
            whole = sets.set_of(random_rows(seed, 10))
            for file in trees.files_of(whole):
                graph = graphs.file_graph(whole, file)
                before = copy.deepcopy((graph.lines, graph.present, graph.edges))
                self.assertFalse(set(held(wants.in_circles(graph), {})) & set(held([graph.present, graph.edges], {})))
                for texts in [[], ["x", "y"], ["new"]]:
                    changes = self.call(lambda given: wants.wanted(graph, file, given), texts)
                    self.assertFalse(set(held(changes, {})) & set(held([graph.lines, graph.present, graph.edges], {})))
                self.assertEqual((graph.lines, graph.present, graph.edges), before)

    def test_splitting(self):
        for seed in range(12):
            whole = sets.set_of(random_rows(seed, 10))
            files = dict(trees.tree(whole))
            edits = {("a",): ["x", "y"], ("b",): None, ("z",): ["x"], ("a", "b"): []}
            self.call(splitting.split, edits, [(("a",), label(1))])
            self.call(splitting.part_of, whole, files, sorted(edits), edits, name("zed", 1))
            for path in files:
                # What is dropped is put into the last argument, and nothing else is modified.
                self.call(lambda *given: splitting.taken_from(*given, {}), whole, files[path][0], path)
                for texts in [None, [], ["x"]]:
                    self.call(lambda *given: splitting.changes_for(*given, {}), whole, files[path], path, texts,
                              name("zed", 1), 2)

    def test_sessions(self):
        for seed in range(25):
            rng = random.Random(seed)
            repo = busy_repo(rng)
            session = sessions.Session(repo, "gus", rng.choice([HIGH, MID, SIDE]))
            for _ in range(25):
                answer = self.call(session.perform, random_deed(rng, all_ids(repo)))
                told = held([answer, [session.texts(path) for path in WORK_PATHS]], {})
                own = held([session.edits, session.base, repo.spaces, repo.rules, repo.papers], {})
                self.assertFalse(set(told) & set(own))
            self.call(session.forget, WORK_PATHS[:3])
            base = copy.deepcopy(session.base)
            for at in repo.labels():
                repo.put(patch(repo.next_id(at, "oli"), ("add", ("a",))))
            self.assertEqual(session.base, base)
            texts = ["x"]
            session.perform(("put", ("a",), texts))
            texts.append("y")
            self.assertEqual(session.edits[("a",)], ["x"])
        self.call(sessions.texts_of, [[(1, "x")]])

    def test_reclassification_and_projections(self):
        for seed in range(12):
            repo = busy_repo(random.Random(seed))
            for prefix, new in [((), SIDE), (("a",), MID)]:
                before = reclassing.copy_of(repo)
                kept = copy.deepcopy(state(before))
                rules = repo.rules + [(prefix, new)]
                self.call(reclassing.labels_under, repo.rules, prefix)
                self.call(reclassing.may_reclass, repo.rules, HIGH, prefix, new)
                paper = self.call(lambda given: reclassing.turned_paths(repo, given), rules)
                self.assertEqual(state(repo), kept)
                told = reclassing.reclass(repo, "zed", prefix, new)
                self.assertEqual(told, paper)
                self.assertFalse(set(held(told, {})) & set(held([repo.papers, repo.spaces], {})))
                self.call(lambda given: reclassing.paper_right(before, repo, "zed", prefix, new, given), told)
                self.assertEqual(state(before), kept)
                self.call(reclassing.releases, repo.papers, MID)
                own = held([repo.rules, repo.spaces, repo.papers], {})
                for other in [reclassing.copy_of(repo), projecting.projected(repo, MID), projecting.projected(repo, HIGH)]:
                    self.assertFalse(set(held([other.rules, other.spaces, other.papers], {})) & set(own))
                kept = copy.deepcopy(state(repo))
                rows = projecting.carry(repo, before)
                self.assertEqual(state(repo), kept)
                self.assertFalse(set(held([rows, before.spaces], {})) & set(own))

    def test_all_errors_are_ward_errors(self):
        one = ("label", 0, ())
        bad = patch(name("ann", 0), ("add", ("a",)))
        tape = tapes.Tape()
        log = logs.Log(tape, one)
        for deed, given in [(patches.check_patch, (bad,)), (sets.with_patch, ({}, bad)), (written.read_patch, ([],)),
                            (tape.mark, ()), (log.out, (name("ann", 1),)), (log.untag, ("t",)), (log.put, (bad,)),
                            (repos.Repo([]).put, (bad,))]:
            with self.assertRaises(errors.WardError):
                deed(*given)


if __name__ == "__main__":
    unittest.main()
