"""Each name of the interface exists, with its arguments, in the file that lists it."""

import ast
import os
import unittest

FOLDER = os.path.join(os.path.dirname(os.path.dirname(os.path.abspath(__file__))), "quiltward")

FUNCTIONS = {
    "labels": ["is_below(one, other)", "label_key(label)", "sorted_labels(labels)", "joined(one, other)",
               "common(one, other)"],
    "patches": ["is_label(label)", "is_id(name)", "is_path(path)", "is_text(text)", "needs(patch)",
                "vertex_needs(patch)", "backs(patch)", "made_by(patch)", "check_patch(patch)",
                "check_fits(patches, patch)"],
    "sets": ["is_set(patches)", "with_patch(patches, patch)", "set_of(row)", "without(patches, name)",
             "dependents(patches, name)", "all_needs(patches, name)", "closure(patches, names)",
             "order_of(patches)", "order_right(patches, order)", "clashes(one, other)", "union(one, other)",
             "standing(patches)", "counted(patches)"],
    "written": ["show_label(label)", "show_path(path)", "show_id(name)", "show_vertex(vertex)", "read_label(text)",
                "read_path(text)", "read_id(text)", "read_vertex(text)", "show_patch(patch)", "read_patch(lines)",
                "show_patches(patches)", "read_patches(lines)"],
    "paths": ["begins(prefix, path)", "show_path(path)", "parse_path(text)", "rule_at(rules, path)",
              "label_of(rules, path)"],
    "blame": ["changes_of(patches, file)", "lines_in(patches, file)", "is_live(patches, file, vertex)",
              "whence(patches, file, vertex)", "blame(patches, file)", "history(patches, file)",
              "shares(patches, file)"],
    "trees": ["files_of(patches)", "names(patches, file)", "tree(patches)", "conflicts(patches)",
              "clear_tree(patches)"],
    "repos": ["files_at(rules, label, patches)", "files_below(rules, spaces, clearance)"],
    "tapes": ["check_number(text)", "record_text(kind, text)", "read_records(data)"],
    "blocks": ["shown_order(graph)", "blocks(graph)", "shown(graph)", "conflicts(graph)", "shown_texts(graph)",
               "blocks_right(graph, rows)"],
    "graphs": ["file_graph(patches, file)"],
    "bundles": ["make_bundle(label, patches, names)", "read_bundle(text)", "take_bundle(patches, text)"],
    "checks": ["content(patches)", "holds(check, told)", "is_right(patches, ids, check)"],
    "commuting": ["independent(patch, other)", "swapped(row, at)", "swaps_between(row, other)",
                  "after_swaps(row, swaps)", "count_orders(patches)", "inverse(patch, name, note)",
                  "parted(patches, name)", "order_with(patches, name)"],
    "trains": ["train(patches, main, queue, check)", "line_of(main, report)",
               "report_right(patches, main, queue, check, report)"],
    "halving": ["halved(patches, main, queue, check)", "halves_right(patches, main, check, line, tests)"],
    "scripts": ["steps_between(one, other)", "script_right(one, other, steps)", "kept(steps)", "levels(one, other)",
                "levels_right(one, other, rows)", "fewest(one, other, steps, rows)"],
    "wants": ["in_circles(graph)", "wanted(graph, file, texts)"],
    "splitting": ["split(edits, rules)", "taken_from(patches, file, path, gone)",
                  "changes_for(patches, files, path, texts, own, place, gone)",
                  "part_of(patches, files, paths, edits, own)"],
    "sessions": ["texts_of(items)"],
    "reclassing": ["labels_under(rules, prefix)", "may_reclass(rules, clearance, prefix, label)",
                   "turned_paths(repo, rules)", "reclass(repo, name, prefix, label)", "releases(papers, clearance)",
                   "paper_right(before, after, name, prefix, label, paper)", "copy_of(repo)"],
    "projecting": ["projected(repo, clearance)", "carry(one, other)"],
    "low": ["view(repo, clearance)", "alike(one, other, clearance)", "is_secret(world, clearance, name, deed)",
            "compare(worlds, clearance, rows)"],
    "meanings": ["tree_of(lines)", "lines_of_tree(tree, depth)", "merged_trees(base, one, other)",
                 "merged_lines(base, one, other)"],
    "picking": ["picked(source, target, wanted)", "pick(source, target, wanted)", "chains(source, target, wanted)",
                "chains_right(source, target, wanted, paper)", "taken_out(patches, unwanted)",
                "take_out(patches, unwanted)"],
    "quorums": ["hands_of(rules, author)", "suffices(rules, author, hands)", "quorums(rules, author)",
                "blockers(rules, author)", "dual(lists, hands)", "apart(rules, author)"],
    "script": ["run_script(text)"],
    "searching": ["new_ids(good, bad)", "parts_between(good, bad)", "picks_between(good, bad)",
                  "causes_between(good, bad, most)", "is_bad(part, cause)", "plan(causes, tests)", "depth(tree)",
                  "plan_right(causes, tests, tree)", "shield(causes, tests)", "shield_right(causes, tests, rows)"],
    "settling": ["has_circle(graph, block)", "orders_right(graph, block, order)", "jumps(graph, order)",
                 "settled(graph, block)", "settling(graph, file)", "potentials(graph, block)",
                 "potentials_right(graph, block, rows, count)"],
    "stocks": ["may_forget(patches, ids)", "stock_of(patches, ids)", "rest_of(patches, ids)",
               "fits_stock(stock, rest, patch)", "stock_graph(stock, rest, file)", "stock_names(stock, rest, file)",
               "stock_tree(stock, rest)"],
    "texts": ["lines_of(text)", "joined(lines)"],
    "versions": ["is_version(patches, ids)", "tops(patches, ids)", "version_of(patches, ids)",
                 "joined_tops(patches, one, other)", "common_tops(patches, one, other)",
                 "steps_from(patches, one, other)", "steps_right(patches, one, other, steps)",
                 "changed_paths(patches, one, other)"],
    "vouching": ["check_record(key, what)", "with_record(records, key, what)", "standing_records(records)",
                 "said_of(records, name, word)", "unmet(rules, records, name)", "accepted(patches, rules, records)",
                 "why(patches, rules, records, name)", "why_right(patches, rules, records, name, paper)",
                 "wanting_for(rules, records, name)", "wanting(patches, rules, records, name)"],
}
CLASSES = {
    ("logs", "Log"): ["__init__(tape, label)", "put(patch)", "out(name)", "tag(name, ids)", "untag(name)", "sync()",
                      "entries()"],
    ("repos", "Repo"): ["__init__(rules)", "space(label)", "labels()", "put(patch)", "next_id(label, name)"],
    ("tapes", "Tape"): ["__init__()", "append(text)", "sync()", "begin(texts)", "mark()", "switch()", "crash(kept)",
                        "recover()"],
    ("archives", "Archive"): ["__init__()", "save(repo)", "restore(rules, clearance)"],
    ("graphs", "FileGraph"): ["__init__(lines, present, edges)", "before(one, other)", "strictly(one, other)",
                              "apart(one, other)", "present_lines()"],
    ("guessing", "Yard"): ["__init__(patches, main, queue, window, doubted)", "wanted()", "answer(version, right)",
                           "report()", "main_line()", "counts()"],
    ("sessions", "Session"): ["__init__(repo, name, clearance)", "perform(deed)", "texts(path)", "forget(paths)"],
    ("worlds", "World"): ["__init__(rules, hands)", "perform(name, deed)"],
    ("searching", "Search"): ["__init__(causes, tests)", "next_part()", "answer(bad)", "found()"],
    ("wires", "End"): ["__init__(label, patches)", "message()", "receive(message)", "known()", "waiting()",
                       "add(patch)"],
    ("sites", "Site"): ["__init__(rules, clearance, peers)", "put(patch)", "send(peer)", "receive(peer, messages)",
                        "crash(kept)"],
}
ERRORS = {"TextError": "at", "WrittenError": "at", "PatchError": "place", "NeededError": "ids", "ClashError": "ids",
          "StepError": "step", "MissingError": "item", "BundleError": "place", "CommandError": "line",
          "VouchError": "place"}


def tree_of(module):
    with open(os.path.join(FOLDER, module + ".py"), encoding="ascii") as source:
        return ast.parse(source.read())


def heads(body, first=0):
    """The heads of the functions of a body, without so many first arguments."""
    return [f"{node.name}({', '.join(arg.arg for arg in node.args.args[first:])})"
            for node in body if isinstance(node, ast.FunctionDef)]


class InterfaceTest(unittest.TestCase):
    def test_functions(self):
        for module, told in FUNCTIONS.items():
            there = heads(tree_of(module).body)
            for head in told:
                self.assertIn(head, there, module)

    def test_methods_stand_in_the_class_itself(self):
        for (module, word), told in CLASSES.items():
            bodies = [node.body for node in tree_of(module).body
                      if isinstance(node, ast.ClassDef) and node.name == word]
            self.assertEqual(len(bodies), 1, word)
            there = heads(bodies[0], 1)
            for head in told:
                self.assertIn(head, there, word)

    def test_errors(self):
        from quiltward import errors
        self.assertEqual(errors.WardError.__bases__, (ValueError,))
        for word, attribute in ERRORS.items():
            kind = getattr(errors, word)
            self.assertEqual(kind.__bases__, (errors.WardError,))
            for value in [0, -1, "label", [ANN]]:
                self.assertEqual(getattr(kind(value), attribute), value)
            self.assertEqual(getattr(kind(**{attribute: 5}), attribute), 5)


ANN = (("label", 0, ()), "ann", 1)

if __name__ == "__main__":
    unittest.main()
