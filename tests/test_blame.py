"""Point 51: whence lines are."""

import unittest

from build import ANN, BOB, EVE, FILE, made, name, patch, random_rows, slow_standing, start
from quiltward.blame import blame, changes_of, history, is_live, lines_in, shares, whence
from quiltward.sets import set_of

X, Y, Z = [(ANN, 1, k) for k in range(3)]
BACK = name("dan", 1)


class BlameTest(unittest.TestCase):
    def setUp(self):
        self.rows = [start("x", "y", "z"),
                     patch(BOB, ("cut", FILE, [X, Y]), ("lines", FILE, [X], [], ["b"]), ("cut", FILE, [Y])),
                     patch(EVE, ("add", ("e",)), ("cut", FILE, [Y]), ("move", FILE, ("m",), [FILE]),
                           ("lines", (EVE, 0, 0), [], [], ["e"]))]

    def test_several_have_cut(self):
        patches = set_of(self.rows)
        self.assertEqual(whence(patches, FILE, X), ("cut", [(BOB, 0)]))
        self.assertEqual(whence(patches, FILE, Y), ("cut", [(BOB, 0), (BOB, 2), (EVE, 1)]))
        self.assertEqual(whence(patches, FILE, Z), ("there", [(ANN, 1)]))
        self.assertEqual(whence(patches, FILE, (BOB, 1, 0)), ("there", [(BOB, 1)]))
        self.assertEqual(whence(patches, (EVE, 0, 0), (EVE, 3, 0)), ("there", [(EVE, 3)]))
        self.assertEqual([is_live(patches, FILE, line) for line in [X, Y, Z, (BOB, 1, 0)]], [False, False, True, True])
        self.assertEqual(changes_of(patches, FILE), [(ANN, 1), (BOB, 0), (BOB, 1), (BOB, 2), (EVE, 1), (EVE, 2)])
        self.assertEqual(history(patches, FILE), [ANN, BOB, EVE])
        self.assertEqual(shares(patches, FILE), {"ann": 1, "bob": 1})
        self.assertEqual(history(patches, (EVE, 0, 0)), [EVE])
        self.assertEqual(changes_of(patches, (EVE, 0, 0)), [(EVE, 3)])

    def test_all_lines_are_told(self):
        patches = set_of(self.rows)
        self.assertEqual(lines_in(patches, FILE), [(X, "x", True), (Y, "y", True), (Z, "z", True),
                                                   ((BOB, 1, 0), "b", True)])
        self.assertEqual(blame(patches, FILE), [(line, whence(patches, FILE, line))
                                                for line in [X, Y, Z, (BOB, 1, 0)]])

    def test_a_cut_that_was_taken_back(self):
        patches = set_of(self.rows + [patch(BACK, ("back", BOB))])
        self.assertEqual(whence(patches, FILE, X), ("there", [(ANN, 1)]))
        self.assertEqual(whence(patches, FILE, Y), ("cut", [(EVE, 1)]))
        self.assertEqual(whence(patches, FILE, (BOB, 1, 0)), ("taken back", [BACK]))
        self.assertEqual(lines_in(patches, FILE)[3], ((BOB, 1, 0), "b", False))
        self.assertEqual(changes_of(patches, FILE), [(ANN, 1), (EVE, 1), (EVE, 2)])
        self.assertEqual(history(patches, FILE), [ANN, EVE])
        self.assertEqual(shares(patches, FILE), {"ann": 2})

    def test_taken_back_by_several_whether_it_is_cut_or_not(self):
        two = name("dan", 2)
        patches = set_of(self.rows + [patch(two, ("back", ANN)), patch(BACK, ("back", ANN), ("add", ("d",)))])
        for line in [X, Y, Z]:
            self.assertEqual(whence(patches, FILE, line), ("taken back", [BACK, two]))
            self.assertFalse(is_live(patches, FILE, line))
        self.assertEqual(history(patches, FILE), [BOB, EVE])
        self.assertEqual(shares(patches, FILE), {"bob": 1})

    def test_taken_back_and_back_again(self):
        two, three = name("dan", 2), name("dan", 3)
        rows = self.rows + [patch(BACK, ("back", ANN)), patch(two, ("back", BACK))]
        patches = set_of(rows)
        self.assertEqual(blame(patches, FILE), blame(set_of(self.rows), FILE))
        patches = set_of(rows + [patch(three, ("back", two))])
        self.assertEqual(whence(patches, FILE, Z), ("taken back", [BACK]))
        self.assertEqual(blame(patches, FILE)[0], (X, ("taken back", [BACK])))

    def test_a_file_without_lines(self):
        patches = set_of([start()])
        self.assertEqual([changes_of(patches, FILE), lines_in(patches, FILE), blame(patches, FILE)], [[], [], []])
        self.assertEqual((history(patches, FILE), shares(patches, FILE)), ([ANN], {}))

    def test_random_sets(self):
        for seed in range(40):
            patches = set_of(random_rows(seed, 12))
            stands = slow_standing(patches)
            changes = [(one, place, change) for one in sorted(patches) for place, change in enumerate(patches[one][2])]
            files, _, lines = made(patches.values())
            for file in files:
                here = [(one, place, change) for one, place, change in changes if change[1] == file]
                self.assertEqual(changes_of(patches, file), [(one, place) for one, place, _ in here if one in stands])
                want = []
                for line in sorted(lines.get(file, [])):
                    cuts = [(one, place) for one, place, change in here
                            if one in stands and change[0] == "cut" and line in change[2]]
                    takers = [one for one in sorted(stands) if ("back", line[0]) in patches[one][2]]
                    want.append((line, ("taken back", takers) if line[0] not in stands else
                                 ("cut", cuts) if cuts else ("there", [line[:2]])))
                self.assertEqual(blame(patches, file), want)
                self.assertEqual([whence(patches, file, line) for line, _ in want], [why for _, why in want])
                self.assertEqual([(line, line[0] in stands) for line, _ in want],
                                 [(line, stood) for line, _, stood in lines_in(patches, file)])
                live = [line for line, why in want if why[0] == "there"]
                self.assertEqual([line for line, _ in want if is_live(patches, file, line)], live)
                hands = [line[0][1] for line in live]
                self.assertEqual(shares(patches, file), {hand: hands.count(hand) for hand in hands})
                told = {one for one, _, _ in here} | {file[0]}
                self.assertEqual(history(patches, file), sorted(told & set(stands)))


if __name__ == "__main__":
    unittest.main()
