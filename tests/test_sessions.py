"""Points 73, 74, 75 and 77: sessions."""

import copy
import random
import unittest

from build import ANN, BOB, EVE, FILE, PUBLIC, label, name, patch, start
from quiltward.blame import blame
from quiltward.blocks import shown, shown_texts
from quiltward.graphs import file_graph
from quiltward.labels import is_below
from quiltward.paths import label_of
from quiltward.repos import Repo, files_below
from quiltward.scripts import steps_between
from quiltward.sessions import Session, texts_of
from quiltward.sets import is_set, set_of, with_patch
from quiltward.trees import tree
from work import HIGH, LOW, MID, RULES, SIDE, WORK_PATHS, all_ids, ann_in, busy_repo, outside_patch, random_deed, repo_of

A, B, C, M, S = ("a",), ("b",), ("c",), ("m",), ("s",)
X, Y = (ANN, 1, 0), (ANN, 1, 1)
OK = ("ok",)


def no(reason):
    return ("refused", reason)


class StartTest(unittest.TestCase):
    def test_a_new_session(self):
        repo = repo_of(RULES, start("x"), start("s", one=name("bob", 1, HIGH), path=S), start("o", one=name("bob", 1, SIDE), path=("x",)))
        session = Session(repo, "cid", HIGH)
        self.assertIs(session.repo, repo)
        self.assertEqual((session.name, session.clearance, session.edits), ("cid", HIGH, {}))
        self.assertEqual(session.base, {PUBLIC: repo.space(PUBLIC), HIGH: repo.space(HIGH)})
        self.assertEqual(Session(repo, "dan", LOW).base, {PUBLIC: repo.space(PUBLIC)})
        self.assertEqual(Session(repo, "dan", SIDE).base, {PUBLIC: repo.space(PUBLIC), SIDE: repo.space(SIDE)})
        self.assertEqual(Session(Repo([]), "dan", HIGH).base, {})

    def test_spaces_without_patches_are_not_in_the_base(self):
        repo = Repo([])
        repo.spaces[LOW] = {}
        self.assertEqual(ann_in(repo).base, {})

    def test_texts_of(self):
        self.assertEqual(texts_of([]), [])
        self.assertEqual(texts_of([[(X, "x")], [(Y, "y"), ((BOB, 0, 0), "b")]]), ["x", "y", "b"])


class EditsTest(unittest.TestCase):
    def setUp(self):
        self.repo = repo_of(RULES, start("x", "y"), start("s", one=name("bob", 1, HIGH), path=S))
        self.session = ann_in(self.repo, name="cid")
        self.low = ann_in(self.repo, MID, "dan")

    def test_put(self):
        self.assertEqual(self.session.perform(("put", A, ["z"])), OK)
        self.assertEqual(self.session.perform(("put", S, [])), OK)
        self.assertEqual(self.session.edits, {A: ["z"], S: []})
        self.assertEqual([self.session.texts(path) for path in [A, S, B]], [["z"], [], None])
        self.assertEqual(self.session.perform(("put", A, ["y"])), OK)
        self.assertEqual(self.session.texts(A), ["y"])

    def test_put_is_denied(self):
        self.assertEqual(self.low.perform(("put", S, ["z"])), no("denied"))
        self.assertEqual(self.low.perform(("put", ("s", "q"), [])), no("denied"))
        self.assertEqual(self.low.perform(("put", ("x",), [])), no("denied"))
        self.assertEqual(self.low.edits, {})
        self.assertEqual(self.low.perform(("put", ("s", "low", "q"), ["z"])), OK)

    def test_drop(self):
        self.assertEqual(self.session.perform(("drop", B)), no("none"))
        self.assertEqual(self.session.perform(("drop", A)), OK)
        self.assertEqual(self.session.edits, {A: None})
        self.assertIsNone(self.session.texts(A))
        self.assertEqual(self.session.perform(("drop", A)), no("none"))
        self.session.perform(("put", B, []))
        self.assertEqual(self.session.perform(("drop", B)), OK)
        self.assertEqual(self.session.edits, {A: None, B: None})

    def test_drop_is_denied(self):
        self.assertEqual(self.low.perform(("drop", S)), no("denied"))
        self.assertEqual(self.low.perform(("drop", ("s", "nothing"))), no("denied"))

    def test_revert(self):
        self.session.perform(("put", A, ["z"]))
        self.session.perform(("drop", S))
        self.assertEqual(self.session.perform(("revert",)), OK)
        self.assertEqual((self.session.edits, self.session.texts(A)), ({}, ["x", "y"]))
        self.assertEqual(self.session.perform(("revert",)), OK)

    def test_forget(self):
        for path in [A, B, S]:
            self.session.perform(("put", path, ["z"]))
        self.assertIsNone(self.session.forget([A, S, C]))
        self.assertEqual(self.session.edits, {B: ["z"]})
        self.session.forget([])
        self.session.forget(self.session.edits)
        self.assertEqual(self.session.edits, {})

    def test_texts_of_what_the_clearance_does_not_dominate(self):
        self.assertIsNone(self.low.texts(S))
        self.assertEqual(self.session.texts(S), ["s"])

    def test_texts_with_a_conflict_or_several_files(self):
        self.repo.put(patch(BOB, ("lines", FILE, [X], [Y], ["b"])))
        self.repo.put(patch(EVE, ("lines", FILE, [X], [Y], ["e"])))
        self.repo.put(start("second", one=name("eve", 2)))
        self.assertEqual(self.session.texts(A), ["x", "y"])
        self.session.perform(("update",))
        self.assertEqual(self.session.texts(A), ["x", "b", "e", "y"])


class RecordTest(unittest.TestCase):
    def setUp(self):
        self.repo = repo_of(RULES, start("x", "y"))
        self.session = ann_in(self.repo)
        self.other = ann_in(self.repo, HIGH, "cid")

    def test_one_label(self):
        self.session.perform(("put", A, ["x", "z"]))
        self.session.perform(("put", B, []))
        one = name("ann", 2)
        self.assertEqual(self.session.perform(("record", "a note")), ("recorded", [(PUBLIC, one)]))
        want = patch(one, ("cut", FILE, [Y]), ("lines", FILE, [X], [], ["z"]), ("add", B), note="a note")
        self.assertEqual(self.repo.space(PUBLIC)[one], want)
        self.assertEqual(self.session.base, {PUBLIC: self.repo.space(PUBLIC)})
        self.assertEqual(self.session.edits, {})
        self.assertEqual(self.other.base, {PUBLIC: set_of([start("x", "y")])})

    def test_one_patch_for_each_label(self):
        for path in [("s", "1"), M, ("x",), C, S, B]:
            Session.perform(self.session, ("put", path, [path[-1]]))
        self.assertEqual(self.session.edits.keys(), {("s", "1"), M, C, S, B})
        told = self.session.perform(("record", ""))
        self.assertEqual(told, ("recorded", [(LOW, name("ann", 2)), (MID, name("ann", 1, MID)), (HIGH, name("ann", 1, HIGH))]))
        self.assertEqual(self.repo.space(HIGH)[name("ann", 1, HIGH)][2],
                         [("add", S), ("lines", (name("ann", 1, HIGH), 0, 0), [], [], ["s"]),
                          ("add", ("s", "1")), ("lines", (name("ann", 1, HIGH), 2, 0), [], [], ["1"])])
        self.assertEqual(self.session.edits, {})

    def test_no_edits(self):
        before = self.repo.spaces
        self.assertEqual(self.session.perform(("record", "n")), ("recorded", []))
        self.assertEqual(self.repo.spaces, before)

    def test_edits_that_change_nothing(self):
        self.session.perform(("put", A, ["x", "y"]))
        self.session.perform(("put", B, ["b"]))
        self.session.perform(("drop", B))
        self.session.perform(("put", M, ["m"]))
        self.session.perform(("drop", M))
        self.assertEqual(self.session.perform(("record", "n")), ("recorded", []))
        self.assertEqual((self.session.edits, self.repo.space(PUBLIC)), ({}, set_of([start("x", "y")])))

    def test_exactly_12_changes_and_more(self):
        for k in range(6):
            self.session.perform(("put", ("f", str(k)), ["x"]))
        self.session.perform(("put", M, ["m"]))
        self.assertEqual(self.session.perform(("record", ""))[1], [(LOW, name("ann", 2)), (MID, name("ann", 1, MID))])
        self.assertEqual(len(self.repo.space(LOW)[name("ann", 2)][2]), 12)
        for k in range(7):
            self.session.perform(("put", ("g", str(k)), ["x"] if k else []))
        self.session.perform(("put", M, ["n"]))
        edits = {path: texts for path, texts in self.session.edits.items() if path != M}
        self.assertEqual(self.session.perform(("record", "")), ("recorded", [(LOW, None), (MID, name("ann", 2, MID))]))
        self.assertEqual(self.session.edits, edits)
        self.assertNotIn(name("ann", 3), self.repo.space(LOW))
        self.assertEqual(self.session.perform(("record", "")), ("recorded", [(LOW, None)]))
        self.session.forget([("g", "0")])
        self.assertEqual(self.session.perform(("record", "")), ("recorded", [(LOW, name("ann", 3))]))

    def test_the_next_id_is_that_of_the_space(self):
        self.repo.put(patch(name("ann", 7), ("add", C)))
        self.session.perform(("put", B, ["b"]))
        self.assertEqual(self.session.perform(("record", "")), ("recorded", [(LOW, name("ann", 8))]))
        self.assertNotIn(name("ann", 7), self.session.base[LOW])
        self.assertIn(name("ann", 8), self.session.base[LOW])

    def test_recording_while_others_recorded(self):
        self.session.perform(("put", A, ["x", "mine", "y"]))
        self.other.perform(("put", A, ["x", "theirs", "y"]))
        self.assertEqual(self.other.perform(("record", "")), ("recorded", [(LOW, name("cid", 1))]))
        self.assertEqual(self.session.perform(("record", "")), ("recorded", [(LOW, name("ann", 2))]))
        self.assertEqual(self.session.texts(A), ["x", "mine", "y"])
        self.assertEqual(self.session.perform(("log",)), ("log", [(ANN, "start"), (name("ann", 2), "")]))
        self.session.perform(("update",))
        self.assertEqual(self.session.perform(("show", A)),
                         ("shown", [[(X, "x")], [((name("ann", 2), 0, 0), "mine"), ((name("cid", 1), 0, 0), "theirs")],
                                    [(Y, "y")]]))
        self.session.perform(("put", A, self.session.texts(A)))
        self.assertEqual(self.session.perform(("status",)), ("status", [(A, "changed")]))
        self.session.perform(("record", "both"))
        self.assertEqual(self.repo.space(LOW)[name("ann", 3)][2],
                         [("order", FILE, (name("ann", 2), 0, 0), (name("cid", 1), 0, 0))])

    def test_taking_away(self):
        self.session.perform(("drop", A))
        self.assertEqual(self.session.perform(("record", "")), ("recorded", [(LOW, name("ann", 2))]))
        self.assertEqual(self.repo.space(LOW)[name("ann", 2)][2], [("drop", FILE, [FILE]), ("cut", FILE, [X, Y])])
        self.assertEqual(self.session.perform(("paths",)), ("paths", []))


class MoveTest(unittest.TestCase):
    def setUp(self):
        self.repo = repo_of(RULES, start("x"), start("y", one=name("eve", 2)), start("b", one=BOB, path=B))
        self.session = ann_in(self.repo)

    def test_the_files_get_the_path(self):
        one = name("ann", 2)
        self.assertEqual(self.session.perform(("move", A, C, "why")), ("recorded", [(LOW, one)]))
        two = (name("eve", 2), 0, 0)
        self.assertEqual(self.repo.space(LOW)[one], patch(one, ("move", FILE, C, [FILE]), ("move", two, C, [two]), note="why"))
        self.assertEqual(self.session.perform(("paths",)), ("paths", [(B, 1), (C, 2)]))
        self.assertEqual(self.session.base[LOW], self.repo.space(LOW))

    def test_refusals(self):
        low = ann_in(self.repo, MID, "cid")
        for deed, reason in [(("move", S, A, ""), "denied"), (("move", S, ("s", "1"), ""), "denied"),
                             (("move", A, S, ""), "label"), (("move", ("zz",), S, ""), "label"), (("move", A, M, ""), "label"),
                             (("move", ("zz",), C, ""), "none"), (("move", M, ("m", "1"), ""), "none"),
                             (("move", A, B, ""), "there"), (("move", A, A, ""), "there"), (("move", C, C, ""), "none"),
                             (("move", C, B, ""), "none")]:
            self.assertEqual(low.perform(deed), no(reason), deed)
        self.assertEqual(self.session.perform(("move", S, A, "")), no("label"))

    def test_the_first_reason_is_told(self):
        low = ann_in(self.repo, MID, "cid")
        low.perform(("put", A, ["z"]))
        self.assertEqual(low.perform(("move", A, M, "")), no("label"))
        for deed in [("move", A, C, ""), ("move", C, A, ""), ("move", A, B, ""), ("move", A, A, "")]:
            self.assertEqual(low.perform(deed), no("edited"))
        low.perform(("revert",))
        # An edit that changes nothing is an edit.
        low.perform(("put", C, []))
        low.perform(("drop", C))
        self.assertEqual(low.perform(("move", A, C, "")), no("edited"))
        self.assertEqual(low.perform(("move", A, ("d",), ""))[0], "recorded")

    def test_many_files_and_many_names(self):
        rows = [start(one=name("bob", k), path=("t",)) for k in range(2, 16)]
        rows += [patch(name("zed", k), ("move", (name("bob", 2), 0, 0), ("u",), [(name("bob", 2), 0, 0)])) for k in range(1, 15)]
        repo = repo_of(RULES, *rows)
        session = ann_in(repo)
        session.perform(("move", ("t",), ("v",), ""))
        changes = repo.space(LOW)[name("ann", 1)][2]
        self.assertEqual([change[1] for change in changes], [(name("bob", k), 0, 0) for k in range(3, 15)])
        self.assertEqual(session.perform(("paths",)), ("paths", [(("t",), 1), (("u",), 1), (("v",), 12)]))
        session.perform(("move", ("u",), ("w",), ""))
        self.assertEqual(repo.space(LOW)[name("ann", 2)][2],
                         [("move", (name("bob", 2), 0, 0), ("w",), [(name("zed", k), 0, 0) for k in range(1, 13)])])
        self.assertEqual(session.perform(("paths",)), ("paths", [(("t",), 1), (("u",), 1), (("v",), 12), (("w",), 1)]))

    def test_only_names_at_the_path_are_replaced(self):
        self.repo.put(patch(name("zed", 1), ("move", FILE, ("p",), [FILE])))
        self.repo.put(patch(name("zed", 2), ("move", FILE, ("q",), [FILE])))
        self.session.perform(("update",))
        self.session.perform(("move", ("p",), ("r",), ""))
        self.assertEqual(self.repo.space(LOW)[name("ann", 2)][2], [("move", FILE, ("r",), [(name("zed", 1), 0, 0)])])


class BackTest(unittest.TestCase):
    def setUp(self):
        self.repo = repo_of(RULES, start("x"), patch(BOB, ("cut", FILE, [X])), start("s", one=name("bob", 1, HIGH), path=S))
        self.session, self.low = ann_in(self.repo), ann_in(self.repo, MID, "cid")

    def test_back(self):
        self.assertEqual(self.session.perform(("back", BOB, "no")), ("recorded", [(LOW, name("ann", 2))]))
        self.assertEqual(self.repo.space(LOW)[name("ann", 2)], patch(name("ann", 2), ("back", BOB), note="no"))
        self.assertEqual(self.session.texts(A), ["x"])
        one = name("bob", 1, HIGH)
        self.assertEqual(self.session.perform(("back", one, "")), ("recorded", [(HIGH, name("ann", 1, HIGH))]))
        self.assertEqual(self.session.perform(("paths",)), ("paths", [(A, 1)]))
        self.assertEqual(self.session.perform(("back", name("ann", 1, HIGH), "")), ("recorded", [(HIGH, name("ann", 2, HIGH))]))
        self.assertEqual(self.session.perform(("paths",)), ("paths", [(A, 1), (S, 1)]))

    def test_refusals(self):
        for one, reason in [(name("bob", 1, HIGH), "denied"), (name("zed", 1, HIGH), "denied"), (name("zed", 1), "none"),
                            (name("bob", 1, MID), "none"), (name("bob", 1, SIDE), "denied")]:
            self.assertEqual(self.low.perform(("back", one, "")), no(reason))
        self.repo.put(patch(EVE, ("add", C)))
        self.assertEqual(self.low.perform(("back", EVE, "")), no("none"))
        self.low.perform(("update",))
        self.assertEqual(self.low.perform(("back", EVE, ""))[0], "recorded")

    def test_edits_at_the_label(self):
        self.session.perform(("put", M, ["m"]))
        self.assertEqual(self.session.perform(("back", BOB, ""))[0], "recorded")
        self.session.perform(("put", ("s", "low"), []))
        self.assertEqual(self.session.perform(("back", BOB, "")), no("edited"))
        self.assertEqual(self.session.perform(("back", name("zed", 1), "")), no("none"))
        self.assertEqual(self.session.perform(("back", name("bob", 1, HIGH), ""))[0], "recorded")


class UpdateTest(unittest.TestCase):
    def setUp(self):
        self.repo = Repo(RULES)
        self.session = ann_in(self.repo)
        for at, path in [(LOW, A), (MID, M), (HIGH, S), (SIDE, ("x",))]:
            self.repo.put(start(at[1] and "t" or "p", one=name("bob", 1, at), path=path))

    def test_update(self):
        self.assertEqual(self.session.base, {})
        self.assertEqual(self.session.perform(("update",)), ("updated", []))
        self.assertEqual(self.session.base, {at: self.repo.space(at) for at in [LOW, MID, HIGH]})

    def test_labels_with_edits_stay(self):
        for path in [("m", "2"), ("m", "1"), ("b",)]:
            self.session.perform(("put", path, []))
        self.assertEqual(self.session.perform(("update",)), ("updated", [LOW, MID]))
        self.assertEqual(self.session.base, {HIGH: self.repo.space(HIGH)})
        self.session.perform(("record", ""))
        self.assertEqual(sorted(self.session.base[LOW]), [name("ann", 1)])
        self.repo.put(patch(name("bob", 2, HIGH), ("add", ("s", "2"))))
        self.session.perform(("put", S, []))
        self.assertEqual(self.session.perform(("update",)), ("updated", [HIGH]))
        self.assertEqual(self.session.base[LOW], self.repo.space(LOW))
        self.assertNotIn(name("bob", 2, HIGH), self.session.base[HIGH])
        self.session.perform(("revert",))
        self.assertEqual(self.session.perform(("update",)), ("updated", []))
        self.assertEqual(self.session.base, {at: self.repo.space(at) for at in [LOW, MID, HIGH]})

    def test_edits_that_change_nothing_count(self):
        self.session.perform(("put", B, []))
        self.session.perform(("drop", B))
        self.assertEqual(self.session.perform(("update",)), ("updated", [LOW]))


class TellTest(unittest.TestCase):
    def setUp(self):
        self.rows = [start("x", "y"), patch(BOB, ("lines", FILE, [X], [Y], ["b"])), start("s", one=name("bob", 1, HIGH), path=S),
                     start("m", one=name("eve", 1, MID), path=M)]
        self.repo = repo_of(RULES, *self.rows)
        self.session, self.low = ann_in(self.repo), ann_in(self.repo, LOW, "cid")

    def test_status(self):
        self.assertEqual(self.session.perform(("status",)), ("status", []))
        for path, texts in [(S, ["t"]), (A, ["x", "b", "y"]), (C, []), (B, ["b"]), (M, ["m", "m"])]:
            self.session.perform(("put", path, texts))
        self.session.perform(("drop", C))
        self.session.perform(("drop", S))
        self.assertEqual(self.session.perform(("status",)), ("status", [(B, "added"), (M, "changed"), (S, "dropped")]))
        self.session.perform(("put", A, []))
        self.assertEqual(self.session.perform(("status",))[1], [(A, "changed"), (B, "added"), (M, "changed"), (S, "dropped")])

    def test_status_of_paths_with_several_files_other_names_or_conflicts(self):
        self.repo.put(start("x", "b", "y", one=name("eve", 2), path=("d",)))
        self.repo.put(start("x", one=name("eve", 3), path=("d",)))
        self.repo.put(start("t", one=name("eve", 4), path=("e",)))
        file = (name("eve", 4), 0, 0)
        for k, path in [(5, ("f",)), (6, ("g",))]:
            self.repo.put(patch(name("eve", k), ("move", file, path, [file])))
        self.repo.put(patch(name("eve", 7), ("lines", FILE, [X], [Y], ["e"])))
        self.session.perform(("update",))
        for path in [A, ("d",), ("f",), ("g",)]:
            self.session.perform(("put", path, self.session.texts(path)))
        self.assertEqual(self.session.perform(("status",))[1], [(path, "changed") for path in [A, ("d",), ("f",), ("g",)]])
        self.assertEqual(len(self.session.perform(("record", ""))[1]), 1)
        for path in [A, ("d",), ("f",), ("g",)]:
            self.session.perform(("put", path, self.session.texts(path)))
        self.assertEqual(self.session.perform(("status",))[1], [])
        self.assertEqual(self.session.perform(("record", ""))[1], [])

    def test_a_file_with_two_names_at_one_path(self):
        for k in (5, 6):
            self.repo.put(patch(name("eve", k), ("move", FILE, ("f",), [FILE])))
        self.session.perform(("update",))
        self.session.perform(("put", ("f",), self.session.texts(("f",))))
        self.assertEqual(self.session.perform(("status",))[1], [])
        self.assertEqual(self.session.perform(("paths",))[1], [(("f",), 1), (M, 1), (S, 1)])

    def test_paths(self):
        self.repo.put(start(one=name("eve", 2)))
        self.repo.put(start(one=name("eve", 3), path=M))
        self.assertEqual(self.session.perform(("paths",)), ("paths", [(A, 1), (M, 1), (S, 1)]))
        self.session.perform(("update",))
        # The file that the space of another label has at a path is not at this path.
        self.assertEqual(self.session.perform(("paths",)), ("paths", [(A, 2), (M, 1), (S, 1)]))
        self.assertEqual(self.low.perform(("paths",)), ("paths", [(A, 1)]))
        self.session.perform(("put", B, []))
        self.assertEqual(self.session.perform(("paths",))[1][0], (A, 2))

    def test_log(self):
        self.repo.put(patch(name("ann", 10), ("add", C), note="ten"))
        self.repo.put(patch(name("ann", 9), ("add", C), note="nine"))
        self.session.perform(("update",))
        self.assertEqual(self.session.perform(("log",)),
                         ("log", [(ANN, "start"), (name("ann", 9), "nine"), (name("ann", 10), "ten"), (BOB, ""),
                                  (name("eve", 1, MID), "start"), (name("bob", 1, HIGH), "start")]))
        self.assertEqual(self.low.perform(("log",)), ("log", [(ANN, "start"), (BOB, "")]))

    def test_show(self):
        self.assertEqual(self.session.perform(("show", A)), ("shown", [[(X, "x")], [((BOB, 0, 0), "b")], [(Y, "y")]]))
        self.session.perform(("put", A, ["z"]))
        self.session.perform(("put", B, ["z"]))
        self.assertEqual(self.session.perform(("show", A))[1][0], [(X, "x")])
        self.assertEqual(self.session.perform(("show", B)), no("none"))
        self.assertEqual(self.low.perform(("show", S)), no("denied"))
        self.assertEqual(self.low.perform(("show", ("s", "none"))), no("denied"))

    def test_whence(self):
        self.assertEqual(self.session.perform(("whence", A)),
                         ("whence", [(X, ("there", [(ANN, 1)])), (Y, ("there", [(ANN, 1)])), ((BOB, 0, 0), ("there", [(BOB, 0)]))]))
        self.session.perform(("back", BOB, ""))
        self.session.perform(("put", A, ["y"]))
        self.session.perform(("record", ""))
        self.assertEqual(self.session.perform(("whence", A)),
                         ("whence", [(X, ("cut", [(name("ann", 3), 0)])), (Y, ("there", [(ANN, 1)])),
                                     ((BOB, 0, 0), ("taken back", [name("ann", 2)]))]))
        self.assertEqual(self.session.perform(("whence", B)), no("none"))
        self.assertEqual(self.low.perform(("whence", S)), no("denied"))

    def test_differ(self):
        self.assertEqual(self.session.perform(("differ", A)), ("differ", [("keep", 0, 0), ("keep", 1, 1), ("keep", 2, 2)]))
        self.assertEqual(self.session.perform(("differ", B)), no("none"))
        self.assertEqual(self.low.perform(("differ", S)), no("denied"))
        self.session.perform(("put", A, ["b", "x"]))
        self.assertEqual(self.session.perform(("differ", A)),
                         ("differ", [("cut", 0), ("keep", 1, 0), ("cut", 2), ("put", 1)]))
        self.session.perform(("drop", A))
        self.assertEqual(self.session.perform(("differ", A)), ("differ", [("cut", 0), ("cut", 1), ("cut", 2)]))
        self.session.perform(("put", B, ["q"]))
        self.assertEqual(self.session.perform(("differ", B)), ("differ", [("put", 0)]))
        self.session.perform(("drop", B))
        self.assertEqual(self.session.perform(("differ", B)), ("differ", []))

    def test_the_first_file_of_a_path(self):
        self.repo.put(start("first", one=name("abe", 1)))
        self.session.perform(("update",))
        self.assertEqual(self.session.perform(("show", A))[1], [[((name("abe", 1), 1, 0), "first")]])
        self.assertEqual(self.session.perform(("whence", A))[1], [((name("abe", 1), 1, 0), ("there", [(name("abe", 1), 1)]))])
        self.assertEqual(self.session.texts(A), ["first"])


class RandomTest(unittest.TestCase):
    def expected(self, session, deed):
        """What the answer of a deed that tells something must be, found from the base and the edits."""
        word, base, rules = deed[0], session.base, session.repo.rules
        files = files_below(rules, base, session.clearance)
        if word == "paths":
            return word, sorted((path, len(row)) for path, row in files.items())
        if word == "log":
            return word, sorted((one, row[3]) for patches in base.values() for one, row in patches.items())
        path = deed[1]
        if not is_below(label_of(rules, path), session.clearance):
            return no("denied")
        if path not in files and (word != "differ" or path not in session.edits):
            return no("none")
        patches = base.get(label_of(rules, path), {})
        items = shown(file_graph(patches, files[path][0])) if path in files else []
        if word == "show":
            return "shown", items
        if word == "whence":
            return word, blame(patches, files[path][0])
        return word, steps_between(texts_of(items), session.texts(path) or [])

    def test_random_deeds(self):
        for seed in range(60):
            rng = random.Random(seed)
            repo = busy_repo(rng)
            session = Session(repo, "gus", rng.choice([LOW, MID, HIGH, SIDE]))
            for _ in range(40):
                deed = random_deed(rng, all_ids(repo))
                before = copy.deepcopy((session.edits, session.base, repo.spaces))
                copies = {path: session.texts(path) for path in WORK_PATHS}
                if deed[0] in ("paths", "log", "show", "whence", "differ"):
                    self.assertEqual(session.perform(deed), self.expected(session, deed))
                    self.assertEqual((session.edits, session.base, repo.spaces), before)
                    continue
                answer = session.perform(deed)
                if answer[0] in ("refused", "status"):
                    self.assertEqual((session.edits, session.base, repo.spaces), before)
                if answer[0] == "recorded":
                    self.check_recorded(session, deed, answer, before, copies)
                for at in session.base:
                    self.assertTrue(is_below(at, session.clearance) and is_set(session.base[at]))
                if rng.random() < 0.2:
                    outside_patch(rng, repo, rng.choice([LOW, MID, HIGH]), "oli")

    def check_recorded(self, session, deed, answer, before, copies):
        """What is true behind a deed that made patches."""
        edits, base, spaces = before
        rules = session.repo.rules
        for at, one in answer[1]:
            if one is not None:
                self.assertEqual(one[:2], (at, session.name))
                new = session.repo.spaces[at][one]
                self.assertEqual(session.base[at], with_patch(base.get(at, {}), new))
                self.assertEqual(session.repo.spaces[at], with_patch(spaces.get(at, {}), new))
                numbers = [other[2] for other in spaces.get(at, {}) if other[1] == session.name]
                self.assertEqual(one[2], max(numbers, default=0) + 1)
        made = [at for at, one in answer[1] if one is not None]
        self.assertTrue(all(session.base[at] == base[at] for at in base if at not in made))
        if deed[0] == "record":
            left = [at for at, one in answer[1] if one is None]
            self.assertEqual(session.edits, {path: edits[path] for path in edits if label_of(rules, path) in left})
            for path in WORK_PATHS:
                self.assertEqual(session.texts(path), copies[path])
                files = dict(tree(session.base.get(label_of(rules, path), {}))).get(path, [])
                if path in edits and label_of(rules, path) not in left and edits[path] is not None:
                    self.assertEqual(len(files), 1)
                    self.assertEqual(shown_texts(file_graph(session.base[label_of(rules, path)], files[0])), edits[path])

    def test_status_tells_what_recording_would_change(self):
        seen = set()
        for seed in range(60):
            rng = random.Random(seed)
            repo = busy_repo(rng)
            session = Session(repo, "gus", HIGH)
            for path in rng.sample(WORK_PATHS, 5):
                choice = rng.choice(["same", "none", "new"])
                texts = session.texts(path)
                session.perform(("put", path, ["n"] if texts is None or choice == "new" else texts))
                if choice == "none":
                    session.perform(("drop", path))
            rows = dict(session.perform(("status",))[1])
            self.assertEqual(list(rows), sorted(rows))
            for path in list(session.edits):
                other = Session(repo, "hal", HIGH)
                other.edits = {path: session.edits[path]}
                self.assertEqual(bool(other.perform(("record", ""))[1]), path in rows)
                seen.add(rows.get(path))
                repo.spaces = {at: {one: row for one, row in repo.spaces[at].items() if one[1] != "hal"} for at in repo.spaces}
        self.assertEqual(seen, {None, "added", "dropped", "changed"})


if __name__ == "__main__":
    unittest.main()
