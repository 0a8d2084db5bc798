"""Points 108 and 109: bundles."""

import itertools
import random
import unittest

from build import ANN, BOB, EVE, FILE, PUBLIC, SECRET, closed, label, name, patch, random_rows, slow_needs, start
from quiltward.bundles import make_bundle, read_bundle, take_bundle
from quiltward.errors import BundleError, ClashError, PatchError
from quiltward.sets import set_of
from quiltward.tapes import check_number
from quiltward.written import show_label, show_patch, show_patches

ONE = start("x", "y")
TWO = patch(BOB, ("lines", FILE, [(ANN, 1, 0)], [], ["b"]), note="two")
THREE = patch(EVE, ("cut", FILE, [(ANN, 1, 1), (BOB, 0, 0)]))
LONE = patch(name("ann", 2), ("add", ("z",)))
ROWS = [ONE, LONE, TWO, THREE]


def summed(lines):
    """The text of lines with the right sum behind them."""
    body = "".join(line + "\n" for line in lines)
    return body + f"sum {check_number(body)}"


def written(rows, at=PUBLIC, many=None):
    """The text of a list of patches, as they stand, with the right sum."""
    return summed([f"bundle {show_label(at)} {len(rows) if many is None else many}"] + show_patches(rows))


def slow_order(rows):
    """The order of a bundle, found by looking for the least id again and again."""
    left, order = {row[1]: row for row in rows}, []
    while left:
        ready = [one for one in left if not set(slow_needs(left[one])) & set(left)]
        order.append(left.pop(min(ready)))
    return order


class MakeTest(unittest.TestCase):
    def test_no_patches(self):
        body = "bundle 3:02 0\n"
        self.assertEqual(make_bundle(SECRET, {}, []), body + f"sum {check_number(body)}")
        self.assertEqual(make_bundle(PUBLIC, set_of(ROWS), []), summed(["bundle 0 0"]))

    def test_one_patch(self):
        lines = ["bundle 0 1", "patch 0.ann.1", "note start", "add a", "lines 0.ann.1.0.0 - - 2", "|x", "|y", "end"]
        self.assertEqual(make_bundle(PUBLIC, set_of(ROWS), [ANN]), summed(lines))

    def test_it_takes_all_that_is_needed_along(self):
        self.assertEqual(make_bundle(PUBLIC, set_of(ROWS), [EVE]), written([ONE, TWO, THREE]))
        self.assertEqual(make_bundle(PUBLIC, set_of(ROWS), [BOB, ANN, BOB]), written([ONE, TWO]))

    def test_the_least_id_comes_first_as_long_as_there_is_a_choice(self):
        late = patch(name("abe", 1), ("order", FILE, (ANN, 1, 0), (BOB, 0, 0)))
        rows = [ONE, LONE, TWO, late, THREE]
        self.assertEqual(make_bundle(PUBLIC, set_of(rows), [row[1] for row in rows]), written(rows))
        self.assertRaises(BundleError, read_bundle, written([ONE, TWO, late, LONE, THREE]))

    def test_random_sets(self):
        for seed in range(40):
            rng = random.Random(seed)
            rows = random_rows(seed, 10, SECRET)
            ids = rng.sample([row[1] for row in rows], rng.randint(0, 5))
            want = slow_order(closed(rows, ids))
            text = make_bundle(SECRET, set_of(rows), ids)
            self.assertEqual(text, written(want, SECRET))
            self.assertEqual(read_bundle(text), (SECRET, want))


class ReadTest(unittest.TestCase):
    def refused(self, text):
        for deed in [lambda: read_bundle(text), lambda: take_bundle({}, text)]:
            with self.assertRaises(BundleError, msg=text):
                deed()

    def test_what_is_read(self):
        self.assertEqual(read_bundle(written([])), (PUBLIC, []))
        self.assertEqual(read_bundle(written([], label(7, 0, 5))), (label(7, 0, 5), []))
        told = read_bundle(written(ROWS))
        self.assertEqual(told, (PUBLIC, ROWS))
        self.assertIsInstance(told, tuple)

    def test_patches_whose_needs_are_not_there(self):
        self.assertEqual(read_bundle(written([TWO, THREE])), (PUBLIC, [TWO, THREE]))
        self.refused(written([THREE, TWO]))
        self.assertEqual(read_bundle(written([ONE, THREE])), (PUBLIC, [ONE, THREE]))

    def test_lines_left_out_doubled_exchanged_or_changed(self):
        text = written(ROWS)
        lines = text.split("\n")
        for at in range(len(lines)):
            others = [lines[:at] + lines[at + 1:], lines[:at + 1] + lines[at:],
                      lines[:at] + [lines[at] + " "] + lines[at + 1:], lines[:at] + ["", *lines[at:]]]
            if at and lines[at] != lines[at - 1]:
                others.append(lines[:at - 1] + [lines[at], lines[at - 1]] + lines[at + 1:])
            for other in others:
                self.refused("\n".join(other))

    def test_lines_left_out_or_doubled_with_the_right_sum(self):
        body = written(ROWS).split("\n")[:-1]
        # A change that is left out or doubled leaves a patch that may be read, whether it fits or not.
        left_out, doubled = [], []
        for at in range(len(body)):
            for other, found in [(body[:at] + body[at + 1:], left_out), (body[:at + 1] + body[at:], doubled)]:
                try:
                    rows = read_bundle(summed(other))[1]
                except BundleError:
                    continue
                self.assertEqual(written(rows), summed(other))
                found.append(body[at])
        self.assertEqual(left_out, ["add a"])
        self.assertEqual(doubled, ["add a", "add z", "cut 0.ann.1.0.0 0.ann.1.1.1,0.bob.1.0.0"])

    def test_changed_texts_are_read_with_the_right_sum_alone(self):
        lines = written(ROWS).split("\n")
        at = lines.index("|x")
        lines[at] = "|xx"
        self.refused("\n".join(lines))
        self.assertEqual(read_bundle(summed(lines[:-1]))[1][0][2][1][4], ["xx", "y"])

    def test_exchanged_lines_with_the_right_sum(self):
        lines = written(ROWS).split("\n")[:-1]
        for at, to in [(0, 1), (1, 2), (2, 3), (3, 4), (4, 5)]:
            other = list(lines)
            other[at], other[to] = other[to], other[at]
            self.refused(summed(other))

    def test_each_sign_counts(self):
        text = written([ONE])
        for at in range(len(text)):
            self.refused(text[:at] + text[at + 1:])
            self.refused(text[:at] + ("0" if text[at] != "0" else "1") + text[at + 1:])
            self.refused(text[:at])

    def test_patches_of_another_label(self):
        other = start("x", one=name("zed", 1, label(1)))
        self.refused(written([other]))
        self.refused(written([ONE, other]))
        self.refused(written([ONE], label(1)))
        self.assertEqual(read_bundle(written([other], label(1))), (label(1), [other]))

    def test_patches_in_another_order(self):
        for rows in itertools.permutations(ROWS):
            if list(rows) == ROWS:
                self.assertEqual(read_bundle(written(rows)), (PUBLIC, ROWS))
            else:
                self.refused(written(rows))

    def test_one_patch_twice(self):
        for rows in [[ONE, ONE], [ONE, LONE, LONE], [ONE, LONE, TWO, ONE], [ONE, start("other")], [start("other"), ONE]]:
            self.refused(written(rows))

    def test_patches_that_need_each_other(self):
        one = patch(ANN, ("back", BOB))
        other = patch(BOB, ("back", ANN))
        self.refused(written([one, other]))
        self.refused(written([other, one]))

    def test_numbers(self):
        for many in ["04", "+4", " 4", "4 ", "3", "5", "-4", "", "four", "4.0", "4_0", "1" + "0" * 5000]:
            self.refused(written(ROWS, many=many))
        self.refused(written([], many="00"))
        body, number = written(ROWS).rsplit(" ", 1)
        for other in ["0" + number, "+" + number, " " + number, number + " ", str(int(number) + 4294967291), "", "-1"]:
            self.refused(f"{body} {other}")
        for line in ["bundle 00 0", "bundle 8 0", "bundle 0: 0", "bundle 3:20 0", "Bundle 0 0", "bundle 0", "bundle  0 0",
                     "bundle 0 0 0", " bundle 0 0", "bundle 0\t0", ""]:
            self.refused(summed([line]))

    def test_text_behind_the_end(self):
        for rows in [[], ROWS]:
            text = written(rows)
            for more in ["\n", " ", "0", "\nend", "\n\n", "\n" + text]:
                self.refused(text + more)
            for more in ["\n", " "]:
                self.refused(more + text)

    def test_nothing(self):
        for text in ["", "\n", "bundle", "bundle 0 0", "bundle 0 0\n", "bundle 0 0\nsum", "bundle 0 0\nsum ", "sum 7"]:
            self.refused(text)

    def test_the_sum_stands_in_the_last_line(self):
        lines = written([ONE]).split("\n")
        self.refused(summed(lines))
        self.refused("\n".join([lines[0], lines[-1]] + lines[1:-1]))

    def test_the_place_is_the_line(self):
        text = written(ROWS)
        many = len(text.split("\n"))
        for other, place in [("x" + text, 0), (text.replace("bundle 0 4", "bundle 0 3"), 0),
                             (text.replace("patch 0.ann.1", "patch 0.ann.01"), 1), (text + "1", many - 1),
                             (written([TWO, ONE]), 1), (written([ONE, TWO, LONE]), 1 + len(show_patch(ONE)))]:
            with self.assertRaises(BundleError) as caught:
                read_bundle(other)
            self.assertEqual(caught.exception.place, place, other)


class TakeTest(unittest.TestCase):
    def test_all_is_new(self):
        for rows in [[], [ONE], ROWS]:
            self.assertEqual(take_bundle({}, written(rows)), set_of(rows))
        self.assertEqual(take_bundle(set_of([LONE]), written([ONE, TWO])), set_of([LONE, ONE, TWO]))

    def test_what_is_there_already(self):
        whole = set_of(ROWS)
        for ids in [[ANN], [EVE], sorted(whole)]:
            self.assertEqual(take_bundle(whole, make_bundle(PUBLIC, whole, ids)), whole)
        part = set_of([ONE, TWO])
        self.assertEqual(take_bundle(part, written(ROWS)), whole)
        self.assertEqual(part, set_of([ONE, TWO]))

    def test_needs_that_the_set_has(self):
        self.assertEqual(take_bundle(set_of([ONE]), written([TWO, THREE])), set_of([ONE, TWO, THREE]))

    def test_twice(self):
        text = written(ROWS)
        once = take_bundle({}, text)
        again = take_bundle(once, text)
        self.assertEqual(again, once)
        self.assertIsNot(again, once)

    def test_another_patch_with_one_id(self):
        mine = set_of([start("other"), patch(name("ann", 2), ("add", ("y",)))])
        before = dict(mine)
        with self.assertRaises(ClashError) as caught:
            take_bundle(mine, written(ROWS))
        self.assertEqual(caught.exception.ids, [ANN, name("ann", 2)])
        self.assertEqual(mine, before)

    def test_a_patch_that_does_not_fit(self):
        cases = [({}, [TWO], 0), (set_of([LONE]), [TWO, THREE], 0), (set_of([ONE]), [THREE], 0),
                 ({}, [ONE, patch(BOB, ("add", ("b",)), ("cut", FILE, [(ANN, 1, 2)]))], 1),
                 ({}, [patch(ANN, ("back", ANN))], 0),
                 (set_of([start("s", one=name("ann", 1, label(1)))]), [ONE], -1)]
        for patches, rows, place in cases:
            before = dict(patches)
            with self.assertRaises(PatchError) as caught:
                take_bundle(patches, written(rows))
            self.assertEqual(caught.exception.place, place)
            self.assertEqual(patches, before)

    def test_no_patches_of_another_label(self):
        self.assertEqual(take_bundle(set_of(ROWS), written([], SECRET)), set_of(ROWS))

    def test_the_order_of_the_errors(self):
        mine = set_of([start("other")])
        self.assertRaises(BundleError, take_bundle, mine, written([TWO, ONE]))
        self.assertRaises(ClashError, take_bundle, mine, written([ONE, THREE]))

    def test_random_sets(self):
        for seed in range(30):
            rng = random.Random(seed)
            rows = random_rows(seed, 10)
            whole = set_of(rows)
            mine = closed(rows, rng.sample(sorted(whole), 3))
            ids = rng.sample(sorted(whole), 3)
            patches = set_of(mine)
            before = dict(patches)
            taken = take_bundle(patches, make_bundle(PUBLIC, whole, ids))
            self.assertEqual(taken, {row[1]: row for row in mine + closed(rows, ids)})
            self.assertEqual(patches, before)


if __name__ == "__main__":
    unittest.main()
