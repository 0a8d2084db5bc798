"""Point 52: picking."""

import itertools
import random
import unittest

from build import ANN, BOB, EVE, FILE, closed, name, patch, random_rows, slow_needs, start
from quiltward.errors import ClashError
from quiltward.picking import chains, chains_right, pick, picked, take_out, taken_out
from quiltward.sets import is_set, set_of

ONE = start("x", "y")
TWO = patch(BOB, ("lines", FILE, [(ANN, 1, 0)], [], ["b"]))
THREE = patch(EVE, ("cut", FILE, [(BOB, 0, 0)]))
FOUR = patch(name("eve", 2), ("order", FILE, (ANN, 1, 0), (BOB, 0, 0)), ("back", EVE))
LONE = patch(name("dan", 1), ("add", ("z",)))
ROWS = [ONE, TWO, THREE, FOUR, LONE]
WHOLE = set_of(ROWS)
DAN, LAST = name("dan", 1), name("eve", 2)


class PickedTest(unittest.TestCase):
    def test_what_is_needed(self):
        for wanted, want in [([], []), ([DAN], [DAN]), ([ANN], [ANN]), ([BOB], [ANN, BOB]), ([LAST], [ANN, BOB, EVE, LAST]),
                             ([LAST, DAN], [ANN, BOB, DAN, EVE, LAST]), ([BOB, LAST, ANN], [ANN, BOB, EVE, LAST]),
                             ([BOB, BOB], [ANN, BOB])]:
            self.assertEqual(picked(WHOLE, {}, wanted), want)
            self.assertEqual(pick(WHOLE, {}, wanted), {one: WHOLE[one] for one in want})

    def test_what_is_there_already(self):
        target = set_of([ONE, TWO, patch(name("fay", 1), ("back", ANN))])
        self.assertEqual(picked(WHOLE, target, [LAST]), [EVE, LAST])
        self.assertEqual(picked(WHOLE, target, [ANN, BOB]), [])
        self.assertEqual(picked(WHOLE, target, []), [])
        self.assertEqual(pick(WHOLE, target, [BOB]), target)
        self.assertEqual(pick(WHOLE, target, [LAST]), {**target, EVE: THREE, LAST: FOUR})
        self.assertEqual(picked(WHOLE, WHOLE, sorted(WHOLE)), [])
        self.assertIsNot(pick(WHOLE, target, []), target)

    def test_sets_that_clash(self):
        other = set_of([start("other"), patch(BOB, ("add", ("q",)))])
        for deed in [picked, pick, chains]:
            for wanted in [[], [DAN], [BOB]]:
                with self.assertRaises(ClashError) as caught:
                    deed(WHOLE, other, wanted)
                self.assertEqual(caught.exception.ids, [ANN, BOB])

    def test_random_sets(self):
        for seed in range(40):
            rng = random.Random(seed)
            rows = random_rows(seed, 10)
            whole = set_of(rows)
            target = set_of(closed(rows, rng.sample(sorted(whole), rng.randint(0, 4))))
            wanted = rng.sample(sorted(whole), rng.randint(0, 4))
            carried = picked(whole, target, wanted)
            self.assertEqual(carried, sorted(row[1] for row in closed(rows, wanted) if row[1] not in target))
            got = pick(whole, target, wanted)
            self.assertTrue(is_set(got) and set(wanted) <= set(got))
            self.assertEqual(set(got), set(target) | set(carried))
            for one in carried:
                left = {other: got[other] for other in got if other != one}
                self.assertFalse(is_set(left) and set(wanted) <= set(left))


class ChainsTest(unittest.TestCase):
    PAPER = [(ANN, [LAST, ANN]), (BOB, [LAST, BOB]), (EVE, [LAST, EVE]), (LAST, [LAST])]

    def right(self, paper, source=WHOLE, target=None, wanted=(LAST,)):
        return chains_right(source, target or {}, list(wanted), paper)

    def test_a_paper(self):
        self.assertEqual(chains(WHOLE, {}, [LAST]), self.PAPER)
        self.assertIs(self.right(self.PAPER), True)
        self.assertEqual(chains(WHOLE, {}, [LAST, BOB])[1], (BOB, [BOB]))
        self.assertEqual(chains(WHOLE, {}, []), [])
        self.assertIs(self.right([], wanted=[]), True)
        self.assertIs(self.right([], target=WHOLE), True)
        self.assertEqual(chains(WHOLE, set_of([ONE, TWO]), [LAST]), [(EVE, [LAST, EVE]), (LAST, [LAST])])

    def test_longer_chains(self):
        for chain in [[LAST, EVE, ANN], [LAST, BOB, ANN], [LAST, EVE, BOB, ANN]]:
            self.assertIs(self.right([(ANN, chain)] + self.PAPER[1:]), True)
        self.assertIs(self.right(self.PAPER[:1] + [(BOB, [LAST, EVE, BOB])] + self.PAPER[2:]), True)

    def test_wanted_ones_that_need_each_other(self):
        paper = [(ANN, [LAST, BOB, ANN]), (BOB, [BOB]), (EVE, [LAST, EVE]), (LAST, [LAST])]
        self.assertIs(self.right(paper, wanted=[LAST, BOB, ANN]), True)
        self.assertEqual([len(chain) for _, chain in chains(WHOLE, {}, [LAST, BOB, ANN])], [1, 1, 2, 1])

    def test_wrong_papers(self):
        paper = self.PAPER
        for wrong in [paper[1:], paper[:3], paper[:1] + paper[:1] + paper[1:], paper[::-1], [paper[1], paper[0]] + paper[2:],
                      paper + [(DAN, [DAN])], [(DAN, [DAN])], paper + [(name("zed", 1), [LAST])], []]:
            self.assertIs(self.right(wrong), False, wrong)

    def test_wrong_chains(self):
        for chain in [[], [ANN], [LAST], [BOB, ANN], [LAST, ANN, BOB], [LAST, LAST, ANN], [LAST, ANN, ANN], [LAST, DAN, ANN],
                      [DAN, ANN], [name("zed", 1), ANN], [LAST, name("zed", 1), ANN], [ANN, BOB, LAST], [LAST, BOB, EVE, ANN]]:
            self.assertIs(self.right([(ANN, chain)] + self.PAPER[1:]), False, chain)
        # The members are carried, so none of them is there already.
        target = set_of([ONE, TWO])
        paper = [(EVE, [LAST, EVE]), (LAST, [LAST])]
        self.assertIs(self.right(paper, target=target), True)
        for wrong in [[(BOB, [LAST, BOB])] + paper, self.PAPER, [paper[0], (LAST, [BOB, LAST])]]:
            self.assertIs(self.right(wrong, target=target), False)

    def test_a_wanted_one_that_is_there(self):
        target = set_of([ONE])
        self.assertIs(self.right([(BOB, [BOB])], target=target, wanted=[ANN, BOB]), True)
        self.assertIs(self.right([(ANN, [ANN]), (BOB, [BOB])], target=target, wanted=[ANN, BOB]), False)

    def test_random_papers(self):
        for seed in range(40):
            rng = random.Random(seed)
            rows = random_rows(seed, 10)
            whole = set_of(rows)
            target = set_of(closed(rows, rng.sample(sorted(whole), rng.randint(0, 3))))
            wanted = rng.sample(sorted(whole), rng.randint(1, 4))
            paper = chains(whole, target, wanted)
            self.assertIs(chains_right(whole, target, wanted, paper), True)
            for at, (one, chain) in enumerate(paper):
                self.assertIs(chains_right(whole, target, wanted, paper[:at] + paper[at + 1:]), False)
                self.assertIs(chains_right(whole, target, wanted, paper[:at] + [(one, chain[1:])] + paper[at + 1:]),
                              bool(chain[1:]) and chain[1] in wanted)
                self.assertEqual(len(chain), self.fewest(whole, wanted, one))

    def fewest(self, whole, wanted, one):
        """How many ids the shortest chain from a wanted one has."""
        reached, many = set(wanted), 1
        while one not in reached:
            reached = {other for two in reached for other in slow_needs(whole[two])}
            many += 1
        return many


class TakeOutTest(unittest.TestCase):
    def test_dependents(self):
        for unwanted, want in [([], []), ([DAN], [DAN]), ([LAST], [LAST]), ([EVE], [EVE, LAST]), ([BOB], [BOB, EVE, LAST]),
                               ([ANN], [ANN, BOB, EVE, LAST]), ([DAN, LAST], [DAN, LAST]), ([EVE, LAST, EVE], [EVE, LAST])]:
            self.assertEqual(taken_out(WHOLE, unwanted), want)
            self.assertEqual(take_out(WHOLE, unwanted), {one: WHOLE[one] for one in WHOLE if one not in want})
        self.assertEqual(take_out({}, []), {})

    def test_nothing_less_can_be_taken_out(self):
        for seed in range(8):
            rng = random.Random(seed)
            rows = random_rows(seed, 7)
            whole = set_of(rows)
            unwanted = rng.sample(sorted(whole), rng.randint(0, 2))
            gone = taken_out(whole, unwanted)
            self.assertTrue(is_set(take_out(whole, unwanted)))
            for many in range(len(gone)):
                for some in itertools.combinations(gone, many):
                    if set(unwanted) <= set(some):
                        self.assertFalse(is_set({one: whole[one] for one in whole if one not in some}))


if __name__ == "__main__":
    unittest.main()
