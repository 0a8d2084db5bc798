"""Point 1: nothing that was passed is modified, what is returned is not shared, and all errors are WardError."""

import copy
import random
import unittest

from build import PUBLIC, label, name, patch, random_rows
from queues import random_case
from quiltward import (blame, blocks, bundles, checks, commuting, errors, graphs, halving, labels, logs, low, meanings,
                       patches, paths, picking, projecting, quorums, reclassing, repos, script, scripts, searching,
                       sessions, sets, settling, splitting, stocks, tapes, texts, trains, trees, versions, vouching,
                       wants, written)
from quiltward.archives import Archive
from quiltward.guessing import Yard
from quiltward.sites import Site
from quiltward.wires import End
from quiltward.worlds import World
from test_meanings import changed, random_tree
from test_quorums import random_rules
from test_scripts import lists
from test_searching import random_case as searching_case
from test_settling import random_graph
from test_versions import random_version
from test_vouching import random_records
from work import (HANDS, HIGH, MID, RULES, SIDE, TOP, WORK_PATHS, all_ids, busy_repo, busy_world, random_deed, random_step,
                  state, world_state)


def held(value, found):
    """The lists and dicts in a value, by their identities; patches are values that nobody modifies."""
    if isinstance(value, tuple) and value[:1] == ("patch",):
        return found
    if isinstance(value, (list, dict)):
        found[id(value)] = value
    if isinstance(value, dict):
        value = list(value.values())
    if isinstance(value, (list, tuple)):
        for item in value:
            held(item, found)
    return found


def rng_bool(seed):
    """A drawn answer."""
    return random.Random(seed).random() < 0.5


class UnmodifiedTest(unittest.TestCase):
    def call(self, deed, *given):
        """The result of a call, or None where it raises an error of the program."""
        before = copy.deepcopy(given)
        try:
            result = deed(*given)
        except errors.WardError:
            result = None
        self.assertEqual(given, before, deed)
        mine, told = held(given, {}), held(result, {})
        self.assertEqual(set(mine) & set(told), set(), deed)
        return result

    def separate(self, one, other):
        """Two values share no list and no dict."""
        mine, theirs = held(one, {}), held(other, {})
        self.assertEqual(set(mine) & set(theirs), set())

    def calls_on_sets(self, rows, other):
        whole = self.call(sets.set_of, rows)
        ids = sorted(whole)
        for row in rows + other:
            for deed in [patches.needs, patches.vertex_needs, patches.backs, patches.made_by, patches.check_patch,
                         written.show_patch]:
                self.call(deed, row)
            self.call(patches.check_fits, whole, row)
            self.call(sets.with_patch, whole, row)
        for deed in [sets.is_set, sets.order_of, sets.standing, sets.counted, trees.files_of, trees.tree,
                     trees.conflicts, trees.clear_tree]:
            self.call(deed, whole)
        for one in ids:
            for deed in [sets.without, sets.dependents, sets.all_needs]:
                self.call(deed, whole, one)
        self.call(sets.closure, whole, ids[2:4])
        self.call(sets.order_right, whole, ids)
        second = sets.set_of(other)
        for one, two in [(whole, second), (whole, sets.closure(whole, ids[:2])), (whole, {})]:
            self.call(sets.clashes, one, two)
            self.call(sets.union, one, two)
        return whole

    def test_patches_sets_and_trees(self):
        for seed in range(6):
            self.calls_on_sets(random_rows(seed, 10), random_rows(seed + 50, 3))

    def test_written_forms(self):
        rows = random_rows(3, 5)
        lines = self.call(written.show_patches, rows)
        self.call(written.read_patches, lines)
        self.call(written.read_patches, lines[:-1])
        self.call(written.read_patch, written.show_patch(rows[0]))
        self.call(written.read_patch, ["patch 0.ann.1", "note "])

    def test_files_and_graphs(self):
        for seed in range(6):
            whole = sets.set_of(random_rows(seed, 12))
            for file in trees.files_of(whole):
                for deed in [trees.names, blame.changes_of, blame.lines_in, blame.blame, blame.history, blame.shares,
                             graphs.file_graph]:
                    self.call(deed, whole, file)
                graph = graphs.file_graph(whole, file)
                for line in graph.lines:
                    self.call(blame.whence, whole, file, line)
                    self.call(blame.is_live, whole, file, line)
                before = copy.deepcopy((graph.lines, graph.present, graph.edges))
                mine = held([graph.lines, graph.present, graph.edges], {})
                for deed in [blocks.shown_order, blocks.blocks, blocks.shown, blocks.conflicts, blocks.shown_texts]:
                    told = held(deed(graph), {})
                    self.assertFalse(set(mine) & set(told))
                self.call(lambda rows: blocks.blocks_right(graph, rows), blocks.blocks(graph))
                self.assertIsNot(graph.present_lines(), graph.present_lines())
                self.assertEqual((graph.lines, graph.present, graph.edges), before)

    def test_labels_paths_and_repositories(self):
        rules = [(("a",), label(1)), ((), label(2, 0))]
        self.call(labels.sorted_labels, [label(2), label(1), label(2)])
        for path in [("a",), ("a", "b"), ("c",)]:
            for deed in [paths.rule_at, paths.label_of]:
                self.call(deed, rules, path)
        whole = sets.set_of(random_rows(1, 10, label(1)))
        self.call(repos.files_at, rules, label(1), whole)
        self.call(repos.files_below, rules, {label(1): whole, PUBLIC: {}}, label(7, 0))
        repo = self.call(repos.Repo, rules)
        for row in random_rows(2, 5):
            self.call(repo.put, row)
        told, own = held([repo.space(PUBLIC), repo.labels()], {}), held([repo.spaces, repo.rules], {})
        self.assertFalse(set(told) & set(own))
        self.call(lambda given: Archive().restore(given, PUBLIC).rules, rules)

    def test_tapes_and_logs(self):
        tape = tapes.Tape()
        log = logs.Log(tape, PUBLIC)
        for row in random_rows(5, 6):
            self.call(log.put, row)
        ids = sorted(log.patches)[:2]
        self.call(log.tag, "t", ids)
        self.assertFalse(any(mine is ids for mine in log.tags.values()))
        self.call(tape.begin, log.entries())
        self.call(tape.crash, (3, 4))
        self.call(tapes.read_records, tape.areas[0].data)

    def test_bundles(self):
        for seed in range(6):
            whole = sets.set_of(random_rows(seed, 8))
            text = self.call(bundles.make_bundle, PUBLIC, whole, sorted(whole)[:2])
            self.call(bundles.read_bundle, text)
            for mine in [{}, whole, sets.closure(whole, sorted(whole)[:1]), sets.set_of(random_rows(seed + 9, 2))]:
                self.call(bundles.take_bundle, mine, text)
                self.call(bundles.take_bundle, mine, text + "x")

    def test_changing_places(self):
        for seed in range(6):
            rows = random_rows(seed, 8)
            whole = sets.set_of(rows)
            other = [whole[one] for one in commuting.order_with(whole, sorted(whole)[0])]
            swaps = self.call(commuting.swaps_between, rows, other)
            for given in [swaps, [], [99]]:
                self.call(commuting.after_swaps, rows, given)
            for at in range(-1, 8):
                self.call(commuting.swapped, rows, at)
            self.call(commuting.count_orders, whole)
            for one in whole:
                self.call(commuting.parted, whole, one)
                self.call(commuting.order_with, whole, one)
                self.call(commuting.independent, whole[one], rows[0])
                back = self.call(commuting.inverse, whole[one], name("zed", 1), "")
                self.assertIsNot(back[2], whole[one][2])

    def test_checks_trains_and_halves(self):
        for seed in range(20):
            given = random_case(seed)
            whole, main, queue, check = given
            told = self.call(checks.content, whole)
            self.call(checks.holds, check, told)
            self.call(checks.is_right, whole, main, check)
            report, line = self.call(trains.train, *given)
            self.call(trains.line_of, main, report)
            self.call(trains.report_right, *given, report)
            self.call(trains.report_right, *given, report[1:])
            line, tests = self.call(halving.halved, *given)[1:]
            self.assertFalse(set(held(line, {})) & set(held(tests, {})))
            self.call(halving.halves_right, whole, main, check, line, tests)

    def test_yards(self):
        for seed in range(20):
            whole, main, queue, check = random_case(seed)
            yard = self.call(Yard, whole, main, queue, 3, queue[:1])
            told = []
            while yard.wanted():
                told += [yard.wanted(), yard.main_line(), yard.report()]
                version = told[-3][0]
                self.call(yard.answer, version, checks.is_right(whole, version, check))
            own = held(list(vars(yard).values()), {})
            self.assertFalse(set(held(told, {})) & set(own))
            self.assertFalse(set(held([main, queue], {})) & set(own))
            with self.assertRaises(errors.StepError) as caught:
                version = [name("zed", 1)]
                yard.answer(version, True)
            self.assertIsNot(caught.exception.step, version)

    def test_scripts_and_wants(self):
        for seed in range(20):
            one, other = lists(seed)
            steps, rows = self.call(scripts.steps_between, one, other), self.call(scripts.levels, one, other)
            self.call(scripts.script_right, one, other, steps)
            self.call(scripts.kept, steps)
            for given in [rows, rows[1:], rows + [[(0, 0)]]]:
                self.call(scripts.levels_right, one, other, given)
                self.call(scripts.fewest, one, other, steps, given)
        for seed in range(6):
            whole = sets.set_of(random_rows(seed, 10))
            for file in trees.files_of(whole):
                graph = graphs.file_graph(whole, file)
                before = copy.deepcopy((graph.lines, graph.present, graph.edges))
                self.assertFalse(set(held(wants.in_circles(graph), {})) & set(held([graph.present, graph.edges], {})))
                for texts in [[], ["x", "y"], ["new"]]:
                    changes = self.call(lambda given: wants.wanted(graph, file, given), texts)
                    self.assertFalse(set(held(changes, {})) & set(held([graph.lines, graph.present, graph.edges], {})))
                self.assertEqual((graph.lines, graph.present, graph.edges), before)

    def test_splitting(self):
        for seed in range(12):
            whole = sets.set_of(random_rows(seed, 10))
            files = dict(trees.tree(whole))
            edits = {("a",): ["x", "y"], ("b",): None, ("z",): ["x"], ("a", "b"): []}
            self.call(splitting.split, edits, [(("a",), label(1))])
            self.call(splitting.part_of, whole, files, sorted(edits), edits, name("zed", 1))
            for path in files:
                # What is dropped is put into the last argument, and nothing else is modified.
                self.call(lambda *given: splitting.taken_from(*given, {}), whole, files[path][0], path)
                for texts in [None, [], ["x"]]:
                    self.call(lambda *given: splitting.changes_for(*given, {}), whole, files[path], path, texts,
                              name("zed", 1), 2)

    def test_sessions(self):
        for seed in range(25):
            rng = random.Random(seed)
            repo = busy_repo(rng)
            session = sessions.Session(repo, "gus", rng.choice([HIGH, MID, SIDE]))
            for _ in range(25):
                answer = self.call(session.perform, random_deed(rng, all_ids(repo)))
                told = held([answer, [session.texts(path) for path in WORK_PATHS]], {})
                own = held([session.edits, session.base, repo.spaces, repo.rules, repo.papers], {})
                self.assertFalse(set(told) & set(own))
            self.call(session.forget, WORK_PATHS[:3])
            base = copy.deepcopy(session.base)
            for at in repo.labels():
                repo.put(patch(repo.next_id(at, "oli"), ("add", ("a",))))
            self.assertEqual(session.base, base)
            texts = ["x"]
            session.perform(("put", ("a",), texts))
            texts.append("y")
            self.assertEqual(session.edits[("a",)], ["x"])
        self.call(sessions.texts_of, [[(1, "x")]])

    def test_reclassification_and_projections(self):
        for seed in range(12):
            repo = busy_repo(random.Random(seed))
            for prefix, new in [((), SIDE), (("a",), MID)]:
                before = reclassing.copy_of(repo)
                kept = copy.deepcopy(state(before))
                rules = repo.rules + [(prefix, new)]
                self.call(reclassing.labels_under, repo.rules, prefix)
                self.call(reclassing.may_reclass, repo.rules, HIGH, prefix, new)
                paper = self.call(lambda given: reclassing.turned_paths(repo, given), rules)
                self.assertEqual(state(repo), kept)
                told = reclassing.reclass(repo, "zed", prefix, new)
                self.assertEqual(told, paper)
                self.assertFalse(set(held(told, {})) & set(held([repo.papers, repo.spaces], {})))
                self.call(lambda given: reclassing.paper_right(before, repo, "zed", prefix, new, given), told)
                self.assertEqual(state(before), kept)
                self.call(reclassing.releases, repo.papers, MID)
                own = held([repo.rules, repo.spaces, repo.papers], {})
                for other in [reclassing.copy_of(repo), projecting.projected(repo, MID), projecting.projected(repo, HIGH)]:
                    self.assertFalse(set(held([other.rules, other.spaces, other.papers], {})) & set(own))
                kept = copy.deepcopy(state(repo))
                rows = projecting.carry(repo, before)
                self.assertEqual(state(repo), kept)
                self.assertFalse(set(held([rows, before.spaces], {})) & set(own))

    def test_worlds_and_comparisons(self):
        for seed in range(10):
            rng = random.Random(seed)
            rules, hands = list(RULES), list(HANDS)
            world = World(rules, hands)
            for _ in range(60):
                one, deed = random_step(rng, all_ids(world.repo))
                answer = self.call(world.perform, one, deed)
                own = [world.repo.rules, world.repo.spaces, world.repo.papers, world_state(world)[1]]
                self.separate(answer, own)
            self.assertEqual((rules, hands), (RULES, HANDS))
            self.separate([rules, hands], [world.repo.rules])
            other = busy_world(rng, 20)
            kept = copy.deepcopy([world_state(one) for one in (world, other)])
            told = [low.view(world.repo, clearance) for clearance in (MID, TOP)]
            self.separate(told, list(state(world.repo)))
            low.alike(world.repo, other.repo, MID)
            rows = [random_step(rng, all_ids(world.repo)) for _ in range(20)]
            for one, deed in rows:
                self.call(lambda *given: low.is_secret(world, MID, *given), one, deed)
            self.call(lambda given: low.compare((world, other), MID, given), (rows, rows))
            self.call(lambda given: low.compare((world, world), MID, given), (rows, rows[1:]))
            self.assertEqual([world_state(one) for one in (world, other)], kept)
        self.call(script.run_script, "hand ann 0\nstart\nann log")

    def test_meanings_and_texts(self):
        for seed in range(40):
            rng = random.Random(seed)
            base = random_tree(rng)
            one, other = changed(rng, base), changed(rng, base)
            rows = [self.call(meanings.lines_of_tree, tree, 0) for tree in (base, one, other)]
            for lines in rows:
                self.call(meanings.tree_of, lines)
            self.call(meanings.tree_of, rows[0] + ["?"])
            for given in [(base, one, other), (base, base, other), (base, one, one), ({}, one, {}), (one, one, one)]:
                self.call(meanings.merged_trees, *given)
            self.call(meanings.merged_lines, *rows)
        lines = self.call(texts.lines_of, "a\nb\n")
        self.call(texts.joined, lines)

    def test_picking_and_versions(self):
        for seed in range(12):
            rng = random.Random(seed)
            rows = random_rows(seed, 9)
            whole = sets.set_of(rows)
            ids, other = random_version(rng, rows), random_version(rng, rows)
            target = {one: whole[one] for one in other}
            for deed in [picking.picked, picking.pick]:
                self.call(deed, whole, target, ids)
                self.call(deed, whole, whole, ids)
                self.call(deed, sets.set_of(random_rows(seed + 9, 3)), target, [])
            paper = self.call(picking.chains, whole, target, ids)
            self.call(picking.chains_right, whole, target, ids, paper)
            self.call(picking.chains_right, whole, target, ids, paper[::-1])
            self.call(picking.taken_out, whole, ids)
            self.call(picking.take_out, whole, ids)
            for deed in [versions.is_version, versions.tops, versions.version_of]:
                self.call(deed, whole, ids[::-1])
            one, two = versions.tops(whole, ids), versions.tops(whole, other)
            for deed in [versions.joined_tops, versions.common_tops, versions.steps_from, versions.changed_paths]:
                self.call(deed, whole, one, two)
                self.call(deed, whole, one, one)
            steps = versions.steps_from(whole, one, two)
            self.call(versions.steps_right, whole, one, two, steps)
            self.call(versions.steps_right, whole, one, two, steps[::-1])

    def test_hands(self):
        for seed in range(20):
            rng = random.Random(seed)
            rules, whole = random_rules(rng), sets.set_of(random_rows(seed, 6))
            hands = self.call(quorums.hands_of, rules, "ann")
            self.call(quorums.suffices, rules, "ann", hands[:2])
            rows = self.call(quorums.quorums, rules, "ann")
            for deed in [quorums.blockers, quorums.apart]:
                self.call(deed, rules, "ann")
            self.call(quorums.dual, rows, hands)
            one, other = quorums.apart([], "ann")
            self.assertIsNot(one, other)
            records = random_records(rng, sorted(whole), 20)
            self.call(vouching.with_record, records, ("zed", 1), ("agree", sorted(whole)[0]))
            self.call(vouching.with_record, records, *sorted(records.items())[0])
            self.call(vouching.standing_records, records)
            self.call(vouching.accepted, whole, rules, records)
            for name_of in whole:
                self.call(vouching.said_of, records, name_of, "agree")
                self.call(vouching.unmet, rules, records, name_of)
                self.call(vouching.wanting_for, rules, records, name_of)
                self.call(vouching.wanting, whole, rules, records, name_of)
                paper = self.call(vouching.why, whole, rules, records, name_of)
                self.call(vouching.why_right, whole, rules, records, name_of, paper)

    def test_searching(self):
        for seed in range(20):
            causes, tests = searching_case(seed)
            good, bad = {}, sets.set_of(random_rows(seed, 6))
            for deed in [searching.new_ids, searching.parts_between, searching.picks_between]:
                self.call(deed, good, bad)
            self.call(searching.causes_between, good, bad, 2)
            tree, rows = self.call(searching.plan, causes, tests), self.call(searching.shield, causes, tests)
            self.call(searching.depth, tree)
            self.call(searching.plan_right, causes, tests, tree)
            self.call(searching.shield_right, causes, tests, rows)
            search = self.call(searching.Search, causes, tests)
            own = [list(vars(search).values()), causes, tests]
            while search.next_part() is not None:
                self.separate(search.next_part(), own)
                search.answer(rng_bool(seed))
            self.separate(search.found(), own)

    def test_settling(self):
        for seed in range(30):
            graph = random_graph(seed)
            before = copy.deepcopy((graph.lines, graph.present, graph.edges))
            for block in blocks.blocks(graph):
                for deed in [settling.has_circle, settling.settled]:
                    self.call(lambda given: deed(graph, given), block)
                self.call(lambda *given: settling.orders_right(graph, *given), block, block[::-1])
                self.call(lambda given: settling.jumps(graph, given), block)
                if settling.settled(graph, block):
                    rows = self.call(lambda given: settling.potentials(graph, given), block)
                    self.call(lambda *given: settling.potentials_right(graph, *given), block, rows, 1)
            self.separate(settling.settling(graph, name("ann", 1)), [graph.lines, graph.present, graph.edges])
            self.assertEqual((graph.lines, graph.present, graph.edges), before)

    def test_stocks(self):
        for seed in range(30):
            rows = random_rows(seed, 8)
            whole, ids = sets.set_of(rows), [row[1] for row in rows[:4]]
            self.call(stocks.may_forget, whole, ids)
            self.call(stocks.rest_of, whole, ids)
            if stocks.may_forget(whole, ids):
                stock = self.call(stocks.stock_of, whole, ids)
                rest = stocks.rest_of(whole, ids)
                self.call(stocks.fits_stock, stock, rest, patch(name("zed", 1), ("add", ("a",))))
                self.call(stocks.stock_tree, stock, rest)
                for file in trees.files_of(whole):
                    self.call(stocks.stock_names, stock, rest, file)
                    graph = self.call(stocks.stock_graph, stock, rest, file)
                    self.separate([graph.lines, graph.present, graph.edges], [stock, rest])

    def test_wires_and_sites(self):
        for seed in range(12):
            rng = random.Random(seed)
            rows = random_rows(seed, 8)
            given = sets.set_of(rows[:5])
            end = self.call(End, PUBLIC, given)
            self.assertIsNot(end.patches, given)
            for row in rng.sample(rows, 8):
                before = end.patches, copy.deepcopy(end.patches)
                self.call(end.receive, (PUBLIC, [row[1]], [row]))
                told = [end.message(), end.known(), end.waiting()]
                self.separate(told, list(vars(end).values()))
                self.assertEqual(before[0], before[1])
            peers = {"two": MID, "three": TOP}
            site = self.call(Site, RULES, HIGH, peers)
            for at in [PUBLIC, MID, HIGH]:
                self.call(site.put, patch(name("ann", 1, at), ("add", ("a",))))
            message = self.call(site.send, "two")
            own = [site.repo.rules, site.repo.spaces, site.archive.tapes, [list(vars(one).values()) for one in site.ends.values()]]
            self.separate(message, own)
            before = [(patches, copy.deepcopy(patches)) for patches in list(site.repo.spaces.values())]
            self.call(site.receive, "two", [(PUBLIC, [], rows[:3])])
            self.call(site.crash, {PUBLIC: (3, 0)})
            for mine, kept in before:
                self.assertEqual(mine, kept)

    def test_all_errors_are_ward_errors(self):
        one = ("label", 0, ())
        bad = patch(name("ann", 0), ("add", ("a",)))
        tape = tapes.Tape()
        log = logs.Log(tape, one)
        for deed, given in [(patches.check_patch, (bad,)), (sets.with_patch, ({}, bad)), (written.read_patch, ([],)),
                            (tape.mark, ()), (log.out, (name("ann", 1),)), (log.untag, ("t",)), (log.put, (bad,)),
                            (repos.Repo([]).put, (bad,)), (texts.lines_of, ("a",)), (meanings.tree_of, (["?"],)),
                            (script.run_script, ("?",)), (vouching.check_record, (("", 1), ("agree", bad[1]))),
                            (End(one, {}).add, (bad,)), (Site([], one, {}).put, (bad,)),
                            (picking.pick, ({bad[1]: bad}, {bad[1]: patch(bad[1])}, []))]:
            with self.assertRaises(errors.WardError):
                deed(*given)


if __name__ == "__main__":
    unittest.main()
