"""Points 162 and 163: trains."""

import unittest

from build import ANN, BOB, EVE, FILE, SECRET, name, patch, random_rows, start
from queues import ALWAYS, NEVER, plain, random_case, slow_train, without_paths
from quiltward.checks import is_right
from quiltward.sets import is_set, set_of
from quiltward.trains import line_of, report_right, train

DAN = name("dan", 1)
ONE = start("x")
TWO = patch(BOB, ("lines", FILE, [(ANN, 1, 0)], [], ["bad"]))
THREE = patch(EVE, ("lines", FILE, [(BOB, 0, 0)], [], ["e"]))
FOUR = patch(DAN, ("cut", FILE, [(ANN, 1, 0)]))
PATCHES = set_of([ONE, TWO, THREE, FOUR])
NOT_BAD = ("not", ("line", ("a",), "bad"))


class TrainTest(unittest.TestCase):
    def test_all_come_in(self):
        told = train(PATCHES, [], [ANN, BOB, EVE, DAN], ALWAYS)
        self.assertEqual(told, ([(one, ("in",)) for one in [ANN, BOB, EVE, DAN]],
                                [[], [ANN], [ANN, BOB], [ANN, BOB, EVE], [ANN, BOB, DAN, EVE]]))
        self.assertIsInstance(told, tuple)

    def test_an_id_that_needs_what_failed(self):
        report, line = train(PATCHES, [], [ANN, BOB, EVE, DAN], NOT_BAD)
        self.assertEqual(report, [(ANN, ("in",)), (BOB, ("fails",)), (EVE, ("needs", [BOB])), (DAN, ("in",))])
        self.assertEqual(line, [[], [ANN], [ANN, DAN]])

    def test_an_id_that_needs_what_is_not_there(self):
        self.assertEqual(train(PATCHES, [], [EVE, BOB, DAN], ALWAYS),
                         ([(EVE, ("needs", [ANN, BOB])), (BOB, ("needs", [ANN])), (DAN, ("needs", [ANN]))], [[]]))
        self.assertEqual(train(PATCHES, [ANN], [EVE], ALWAYS), ([(EVE, ("needs", [BOB]))], [[ANN]]))

    def test_only_what_the_patch_itself_needs_is_told(self):
        rows = [ONE, patch(BOB, ("back", ANN)), patch(EVE, ("back", BOB))]
        self.assertEqual(train(set_of(rows), [], [EVE], ALWAYS)[0], [(EVE, ("needs", [BOB]))])

    def test_ids_that_come_in_late(self):
        report, line = train(PATCHES, [], [BOB, ANN, EVE], ALWAYS)
        self.assertEqual(report, [(BOB, ("needs", [ANN])), (ANN, ("in",)), (EVE, ("needs", [BOB]))])
        self.assertEqual(line, [[], [ANN]])
        # What fails at its turn might hold later: each id has one turn.
        check = ("or", [NOT_BAD, ("line", ("a",), "e")])
        self.assertEqual(train(PATCHES, [ANN], [BOB, DAN, EVE], check)[0],
                         [(BOB, ("fails",)), (DAN, ("in",)), (EVE, ("needs", [BOB]))])

    def test_the_check_is_asked_of_the_last_version_with_the_id(self):
        patches, ids = plain(4)
        check = ("or", [("most", (f"p{k}",), 0) for k in (2, 3)])
        self.assertEqual(train(patches, [], ids, check)[0],
                         [(ids[0], ("in",)), (ids[1], ("in",)), (ids[2], ("fails",)), (ids[3], ("in",))])
        self.assertEqual(train(patches, [], ids[::-1], check)[0],
                         [(ids[3], ("in",)), (ids[2], ("in",)), (ids[1], ("fails",)), (ids[0], ("in",))])

    def test_an_empty_queue(self):
        self.assertEqual(train(PATCHES, [BOB, ANN], [], NEVER), ([], [[ANN, BOB]]))
        self.assertEqual(train({}, [], [], NEVER), ([], [[]]))

    def test_a_check_that_never_holds(self):
        patches, ids = plain(3)
        self.assertEqual(train(patches, [], ids, NEVER), ([(one, ("fails",)) for one in ids], [[]]))
        self.assertEqual(train(PATCHES, [], [ANN, BOB], NEVER)[0], [(ANN, ("fails",)), (BOB, ("needs", [ANN]))])

    def test_a_main_version_that_is_not_right(self):
        patches, ids = plain(3)
        check = without_paths(ids, ids[:1])
        self.assertEqual(train(patches, ids[:1], ids[1:], check)[1], [ids[:1]])

    def test_any_label(self):
        rows = random_rows(4, 6, SECRET)
        ids = [row[1] for row in rows]
        self.assertEqual(train(set_of(rows), [], ids, ALWAYS)[1][-1], sorted(ids))

    def test_random_trains(self):
        for seed in range(120):
            patches, main, queue, check = random_case(seed)
            report, line = train(patches, main, queue, check)
            self.assertEqual((report, line), slow_train(patches, main, queue, check))
            self.assertEqual(line_of(main, report), line)
            self.assertIs(report_right(patches, main, queue, check, report), True)
            for version in line[1:]:
                self.assertTrue(is_right(patches, version, check))
                self.assertTrue(is_set({one: patches[one] for one in version}))


class ReportTest(unittest.TestCase):
    report = [(ANN, ("in",)), (BOB, ("fails",)), (EVE, ("needs", [BOB])), (DAN, ("in",))]

    def right(self, report):
        return report_right(PATCHES, [], [ANN, BOB, EVE, DAN], NOT_BAD, report)

    def test_line_of(self):
        self.assertEqual(line_of([], self.report), [[], [ANN], [ANN, DAN]])
        self.assertEqual(line_of([EVE, BOB], [(ANN, ("in",)), (DAN, ("fails",))]), [[BOB, EVE], [ANN, BOB, EVE]])
        self.assertEqual(line_of([BOB, ANN], []), [[ANN, BOB]])

    def test_the_report(self):
        self.assertIs(self.right(self.report), True)

    def test_another_verdict(self):
        for at, (one, verdict) in enumerate(self.report):
            for other in [("in",), ("fails",), ("needs", []), ("needs", [ANN]), ("needs", [BOB])]:
                rows = list(self.report)
                rows[at] = (one, other)
                self.assertIs(self.right(rows), other == verdict)

    def test_another_list_of_needs(self):
        for ids in [[], [ANN], [ANN, BOB], [BOB, ANN], [BOB, BOB], [BOB, EVE], [name("zed", 9)]]:
            self.assertIs(self.right(self.report[:2] + [(EVE, ("needs", ids))] + self.report[3:]), False)
        both = [(EVE, ("needs", [ANN, BOB]))]
        self.assertIs(report_right(PATCHES, [], [EVE], NOT_BAD, both), True)
        self.assertIs(report_right(PATCHES, [], [EVE], NOT_BAD, [(EVE, ("needs", [BOB, ANN]))]), False)

    def test_another_order_or_length(self):
        rows = self.report
        for other in [[], rows[:-1], rows[1:], rows + rows[-1:], rows[::-1], rows[:2] + rows[:1:-1],
                      rows + [(name("zed", 1), ("in",))]]:
            self.assertIs(self.right(other), False)

    def test_other_ids(self):
        self.assertIs(self.right(self.report[:3] + [(name("dan", 2), ("in",))]), False)


if __name__ == "__main__":
    unittest.main()
