"""Points 116, 117, 118 and 119: scripts of deeds."""

import random
import unittest

from build import label
from quiltward.errors import CommandError
from quiltward.script import run_script
from quiltward.worlds import World
from quiltward.written import show_id, show_label, show_path
from work import HANDS, LOW, RULES, all_ids, random_step

HEAD = ["rule s 3:02", "rule m 1:2", "rule x 2:1", "hand cid 3:02", "hand dan 1:2", "hand fay 0", "start"]


def run(*lines, head=HEAD):
    return run_script("\n".join([*head, *lines]))


def put(path, *texts, who="cid"):
    return [f"{who} put {path}"] + ["|" + text for text in texts] + ["."]


class OutputTest(unittest.TestCase):
    def test_nothing(self):
        for text in ["", "\n", "\n\n", "start", "start\n", "rule - 0\nhand ann 0\nstart", "hand ann 0\nrule - 0"]:
            self.assertEqual(run_script(text), [])

    def test_put_and_show(self):
        self.assertEqual(run(*put("a", "x", "", " y "), "cid show a", "cid record n", "cid show a", "cid show b"),
                         ["ok", "refused none", "recorded 1", "0 0.cid.1", "shown 3", "line", "|x", "line", "|", "line", "| y ",
                          "refused none"])
        self.assertEqual(run(*put("a"), "cid record n", "cid show a"), ["ok", "recorded 1", "0 0.cid.1", "shown 0"])

    def test_record(self):
        self.assertEqual(run("cid record "), ["recorded 0"])
        self.assertEqual(run(*put("a", "x"), *put("s/b", "y"), *put("m", "z"), "cid record n"),
                         ["ok", "ok", "ok", "recorded 3", "0 0.cid.1", "1:2 1:2.cid.1", "3:02 3:02.cid.1"])

    def test_a_label_with_too_many_changes(self):
        lines = [line for k in range(7) for line in put(f"a{k}", "x")] + put("m", "x")
        self.assertEqual(run(*lines, "cid record n", "cid update"),
                         ["ok"] * 8 + ["recorded 2", "0 -", "1:2 1:2.cid.1", "updated 1", "0"])

    def test_drop_revert_status_and_update(self):
        told = run(*put("a", "x"), "cid record n", *put("b"), *put("a", "y"), *put("s"), "cid status", "cid drop s",
                   "cid drop q", "cid status", "cid update", "cid drop a", "cid status", "cid revert", "cid status", "cid update")
        self.assertEqual(told, ["ok", "recorded 1", "0 0.cid.1", "ok", "ok", "ok", "status 3", "a changed", "b added", "s added",
                                "ok", "refused none", "status 2", "a changed", "b added", "updated 2", "0", "3:02", "ok",
                                "status 2", "a dropped", "b added", "ok", "status 0", "updated 0"])

    def test_paths_and_log(self):
        told = run("cid paths", "cid log", *put("a", "x"), *put("a/b"), *put("s"), "cid record  two  words ", "cid move a c ",
                   "cid paths", "cid log", "fay update", "fay paths", "fay log")
        self.assertEqual(told, ["paths 0", "log 0", "ok", "ok", "ok", "recorded 2", "0 0.cid.1", "3:02 3:02.cid.1",
                                "recorded 1", "0 0.cid.2", "paths 3", "a/b 1", "c 1", "s 1",
                                "log 3", "0.cid.1  two  words ", "0.cid.2 ", "3:02.cid.1  two  words ",
                                "updated 0", "paths 2", "a/b 1", "c 1", "log 2", "0.cid.1  two  words ", "0.cid.2 "])

    def test_two_files_with_one_path(self):
        told = run(*put("a", "x"), *put("a", "y", who="dan"), "cid record n", "dan record n", "dan update", "dan paths")
        self.assertEqual(told[-2:], ["paths 1", "a 2"])

    def test_move_and_back(self):
        told = run(*put("a", "x"), "cid record n", "cid move a b some note", "cid move a b ", "cid move b s ",
                   "cid back 0.cid.2 un do", "cid back 0.cid.9 ", "fay back 3:02.cid.1 ", "cid log")
        self.assertEqual(told, ["ok", "recorded 1", "0 0.cid.1", "recorded 1", "0 0.cid.2", "refused none", "refused label",
                                "recorded 1", "0 0.cid.3", "refused none", "refused denied", "log 3", "0.cid.1 n",
                                "0.cid.2 some note", "0.cid.3 un do"])

    def test_refusals(self):
        told = run("fay put s", "|x", ".", "fay show s", "fay drop m/1", "fay whence x", "fay differ s/q", "fay move s a ",
                   *put("a", who="fay"), "fay move a b ", "fay back 0.cid.1 ", "fay reclass s 0", "fay reclass a 1:2")
        self.assertEqual(told, ["refused denied"] * 6 + ["ok", "refused edited", "refused none", "refused denied", "refused denied"])

    def test_conflicts(self):
        told = run(*put("a", "x", "y"), "cid record n", "dan update", *put("a", "x", "d", "y", who="dan"),
                   *put("a", "x", "c", "e", "y"), "cid record c", "dan record d", "cid update", "cid show a", "cid differ a")
        at = told.index("shown 3")
        self.assertEqual(told[at:], ["shown 3", "line", "|x", "conflict 3", "|c", "|e", "|d", "line", "|y", "differ 5",
                                     "keep 0 0", "keep 1 1", "keep 2 2", "keep 3 3", "keep 4 4"])

    def test_whence(self):
        told = run(*put("a", "x", "y"), "cid record n", *put("a", "y", "z"), "cid record m", "cid whence a",
                   "cid back 0.cid.2 ", "cid whence a", "cid whence b")
        self.assertEqual(told, ["ok", "recorded 1", "0 0.cid.1", "ok", "recorded 1", "0 0.cid.2",
                                "whence 3", "0.cid.1.1.0 cut", "0.cid.1.1.1 there", "0.cid.2.1.0 there",
                                "recorded 1", "0 0.cid.3",
                                "whence 3", "0.cid.1.1.0 there", "0.cid.1.1.1 there", "0.cid.2.1.0 taken back", "refused none"])

    def test_differ(self):
        told = run("cid differ a", *put("a", "x", "y", "z"), "cid differ a", "cid record n", *put("a", "y", "q"), "cid differ a",
                   "cid drop a", "cid differ a", *put("b"), "cid differ b")
        self.assertEqual(told, ["refused none", "ok", "differ 3", "put 0", "put 1", "put 2", "recorded 1", "0 0.cid.1", "ok",
                                "differ 4", "cut 0", "keep 1 0", "cut 2", "put 1", "ok", "differ 3", "cut 0", "cut 1", "cut 2",
                                "ok", "differ 0"])

    def test_reclass(self):
        told = run(*put("s/a", "x", ""), *put("s", "|"), *put("s/b"), "cid record n", "cid reclass s 1:2", "cid reclass - 0",
                   "cid reclass q 0", "dan update", "dan paths", "dan log")
        self.assertEqual(told, ["ok", "ok", "ok", "recorded 1", "3:02 3:02.cid.1", "paper 3", "s 3:02 1:2 1", "||",
                                "s/a 3:02 1:2 2", "|x", "|", "s/b 3:02 1:2 0", "refused denied", "paper 0", "updated 0",
                                "paths 3", "s 1", "s/a 1", "s/b 1", "log 3", "1:2.cid.1 reclass", "1:2.cid.2 reclass",
                                "1:2.cid.3 reclass"])

    def test_size(self):
        head = ["rule q 0"] * 31 + ["hand fay 0", "start"]
        self.assertEqual(run("fay reclass a 0", "fay reclass - 0", "fay reclass - 1", head=head),
                         ["paper 0", "refused size", "refused denied"])

    def test_the_empty_prefix(self):
        self.assertEqual(run("ann put f", ".", "bo show f", head=["rule - 3", "hand ann 3", "hand bo 2", "start"]),
                         ["ok", "refused denied"])
        self.assertEqual(run("ann reclass - 2", "bo show f", head=["rule - 3", "hand ann 3", "hand bo 2", "start"]),
                         ["paper 0", "refused none"])


class LinesTest(unittest.TestCase):
    def test_empty_lines_between_commands(self):
        text = "\n\n".join(HEAD) + "\n\n\ncid put a\n|x\n.\n\n\ncid status\n\n"
        self.assertEqual(run_script(text), ["ok", "status 1", "a added"])
        self.assertEqual(run_script("\n" + text + "\n"), ["ok", "status 1", "a added"])

    def test_texts_that_look_like_commands(self):
        texts = [".", "start", "cid log", "|", "", "rule - 0", "put a", " "]
        told = run(*put("a", *texts), "cid record n", "cid show a")
        self.assertEqual(told[-16:], [line for text in texts for line in ("line", "|" + text)])

    def test_bounds_that_hold(self):
        long = "~" * 40
        told = run(*put("a", *["x"] * 199, long), "cid record " + long, "cid record  ", "cid log", "cid log")
        self.assertEqual(told, ["ok", "recorded 1", "0 0.cid.1", "recorded 0"] + ["log 1", "0.cid.1 " + long] * 2)
        rules = [f"rule a{k} 0" for k in range(32)]
        self.assertEqual(run("ann log", head=rules + ["hand ann 0", "start"]), ["log 0"])

    def test_names_that_are_words(self):
        head = ["hand start 0", "hand rule 0", "hand hand 0", "hand put 0", "start"]
        self.assertEqual(run("start log", "rule log", "hand paths", "put put put", ".", "put status", head=head),
                         ["log 0", "log 0", "paths 0", "ok", "status 1", "put added"])

    def test_rules_in_order(self):
        head = ["rule a 1", "rule a 0", "rule b 0", "rule b 1", "hand ann 0", "start"]
        self.assertEqual(run("ann show a", "ann show b", head=head), ["refused none", "refused denied"])


class WrongTest(unittest.TestCase):
    def wrong(self, lines, number):
        text = lines if isinstance(lines, str) else "\n".join(lines)
        with self.assertRaises(CommandError) as caught:
            run_script(text)
        self.assertEqual(caught.exception.line, number, lines)

    def test_wrong_deeds(self):
        for line in ["cid", "cid sing", "cid Put a", "put a", "bob log", "", "Cid log", "cid.log", "log cid", "cid  log",
                     "cid log ", " cid log", "cid log a", "cid paths a", "cid revert ", "cid update 0", "cid status a",
                     "cid drop", "cid drop ", "cid drop a b", "cid drop A", "cid drop a/", "cid drop a//b", "cid drop /a",
                     "cid drop a/b/c/d/e", "cid drop abcdefghi", "cid drop -", "cid show  a", "cid show a ", "cid show a-b",
                     "cid whence", "cid whence a b", "cid differ", "cid differ a.b", "cid record", "cid record\tx",
                     "cid  record x", "cid move a", "cid move a b", "cid move a  b", "cid move a - x", "cid move A b x",
                     "cid back 0.cid.1", "cid back 0.cid.01 x", "cid back 0.cid x", "cid back 0:.cid.1 x", "cid back cid.1 x",
                     "cid back 0.cid.100000 x", "cid back  x", "cid back 8.cid.1 x", "cid reclass s", "cid reclass s 8",
                     "cid reclass s 3:20", "cid reclass s 0 ", "cid reclass s  0", "cid reclass s 0 0", "cid reclass -- 0",
                     "cid reclass  0", "cid reclass s/ 0", "cid reclass s 0:", "cid record " + "x" * 41,
                     "cid move a b " + "x" * 41, "cid back 0.cid.1 " + "x" * 41, "cid put", "cid put a b", "cid put A", "cid put a ",
                     "cid", " ", ".", "|x", "start", "rule a 0", "hand bob 0", "start ", "hand cid 3:02", "rule", "reclass s 0"]:
            if line:
                self.wrong(HEAD + ["cid log", line, ".", "cid log", "?"], 9)

    def test_the_first_wrong_line(self):
        self.wrong(HEAD + ["", "cid log", "", "?", "!"], 11)
        self.wrong(["?"], 1)
        self.wrong("\n\n?", 3)
        # No deed is answered then, and no refusal comes before it.
        self.wrong(HEAD + ["fay show s", "cid log", "?"], 10)

    def test_wrong_worlds(self):
        for line in ["rule", "rule a", "rule a 0 0", "rule a  0", "rule  a 0", "rule a 0 ", "rule a 8", "rule a 1:", "rule a 1:32",
                     "rule A 0", "rule a/ 0", "rule a/b/c/d/e 0", "rule  0", "rule -a 0", "rule - -", "rule / 0", "hand", "hand bob",
                     "hand bob 0 0", "hand Bob 0", "hand bob1 0", "hand abcdefghi 0", "hand  0", "hand bob 9", "hand bob  0",
                     "hand bob 0 ", " hand bob 0", "start now", "start ", "Start", "cid", "?", " ", "|", ".", "world"]:
            self.wrong(["rule a 0", "", "hand cid 0", line, "start"], 4)

    def test_a_deed_ahead_of_start(self):
        self.wrong(["hand ann 0", "ann log", "start"], 2)
        self.wrong(["hand ann 0", "ann put a", "|x", ".", "start"], 2)
        self.wrong(["ann log", "hand ann 0", "start"], 1)

    def test_no_start(self):
        self.wrong(["hand ann 0", "ann log"], 2)
        self.wrong(["rule - 0", "hand ann 0", "", "ann put a", "."], 4)
        self.assertEqual(run_script("rule - 0\nhand ann 0"), [])

    def test_a_session_that_is_not_there(self):
        self.wrong(["hand ann 0", "start", "ann log", "bo log"], 4)
        self.wrong(["start", "ann log"], 2)

    def test_a_hand_twice(self):
        self.wrong(["hand ann 0", "hand bo 0", "hand ann 1", "start"], 3)
        self.wrong(["hand ann 0", "hand ann 0"], 2)

    def test_a_33rd_rule(self):
        rules = [f"rule a{k} 0" for k in range(32)]
        self.wrong(rules + ["rule b 0", "start"], 33)
        self.wrong(["", "hand ann 0"] + rules + ["hand bo 0", "rule b 0", "start"], 36)

    def test_later_ones(self):
        for line in ["rule b 0", "hand bo 0", "start"]:
            self.wrong(["hand ann 0", "start", "ann log", line], 4)
            self.wrong(["hand ann 0", "start", line, "ann log"], 3)

    def test_puts(self):
        for line in ["x", "", " |x", "..", ". ", " .", "cid log", "start", "x|", "|" + "x" * 41, "|\t", "|\x7f", "\\x"]:
            self.wrong(HEAD + ["cid put a", "|y", line, "."], 10)
        self.wrong(HEAD + ["cid put a"] + ["|x"] * 200 + ["|y", "."], 209)
        self.wrong(HEAD + ["cid put a"] + ["|x"] * 200 + ["|y"], 209)
        self.wrong(HEAD + ["cid put a", "|x", "cid log"], 10)

    def test_a_put_without_its_end(self):
        self.wrong(HEAD + ["cid put a"], 8)
        self.wrong(HEAD + ["cid put a", "|x", "|y"], 8)
        self.wrong("\n".join(HEAD + ["", "cid put a", "|x"]) + "\n", 9)
        self.wrong(HEAD + ["cid put a"] + ["|x"] * 200, 8)
        self.wrong(HEAD + ["cid put b", ".", "cid put a"] + ["|."], 10)


def command(who, deed):
    """The lines of a deed."""
    words = [who, deed[0]]
    if deed[0] == "put":
        return put(show_path(deed[1]), *deed[2], who=who)
    for part in deed[1:]:
        if isinstance(part, str):
            words.append(part)
        elif deed[0] == "back":
            words.append(show_id(part))
        elif part[:1] == ("label",):
            words.append(show_label(part))
        else:
            words.append(show_path(part) or "-")
    return [" ".join(words)]


class DrawnTest(unittest.TestCase):
    def test_random_scripts(self):
        heads = [f"rule {show_path(path)} {show_label(at)}" for path, at in RULES]
        heads += [f"hand {who} {show_label(at)}" for who, at in HANDS] + ["start"]
        words = set()
        for seed in range(40):
            rng = random.Random(seed)
            world, lines, counts = World(RULES, HANDS), [], []
            for _ in range(40):
                who, deed = random_step(rng, all_ids(world.repo))
                lines += command(who, deed) + [""] * rng.randint(0, 1)
                answer = world.perform(who, deed)
                words.add(answer[0])
                counts.append(answer[0] if len(answer) == 1 else f"{answer[0]} {answer[1] if answer[0] == 'refused' else len(answer[1])}")
            told = run(*lines, head=heads)
            heads_told = [line for line in told if line in counts]
            left = list(counts)
            for line in told:
                if left and line == left[0]:
                    left.pop(0)
            self.assertEqual(left, [])
            self.assertGreaterEqual(len(heads_told), 40)
        self.assertEqual(words, {"ok", "refused", "recorded", "updated", "status", "paths", "log", "paper", "shown", "whence", "differ"})

    def test_labels_are_written(self):
        self.assertEqual([show_label(LOW), show_label(label(3, 0, 2))], ["0", "3:02"])


if __name__ == "__main__":
    unittest.main()
