"""Points 30 to 33: written forms."""

import itertools
import random
import unittest

from build import ANN, BOB, EVE, FILE, label, name, patch, random_rows, start
from quiltward.errors import WrittenError
from quiltward.written import (read_id, read_label, read_patch, read_patches, read_path, read_vertex, show_id,
                               show_label, show_patch, show_patches, show_path, show_vertex)

SIGNS = " -./:|,0123456789aAz~\n\u00b2\u0663"


def near(text):
    """Texts that have one sign less, more, turned or exchanged."""
    for at in range(len(text) + 1):
        for sign in SIGNS:
            yield text[:at] + sign + text[at:]
            yield text[:at] + sign + text[at + 1:]
        yield text[:at] + text[at + 1:]
        yield text[:at] + text[at + 1:at + 2] + text[at:at + 1] + text[at + 2:]


class SmallTest(unittest.TestCase):
    def check(self, show, read, things):
        """Each thing is read from its text, and from no other text that is near."""
        forms = {show(thing): thing for thing in things}
        self.assertEqual(len(forms), len(things))
        for text, thing in forms.items():
            self.assertEqual(read(text), thing)
            for other in near(text):
                told = read(other)
                self.assertTrue(told is None or show(told) == other, other)

    def none(self, read, texts):
        for text in texts:
            self.assertIsNone(read(text), text)

    def test_labels(self):
        self.assertEqual([show_label(one) for one in [label(3, 0, 2, 5), label(0), label(7, 1)]], ["3:025", "0", "7:1"])
        marks = [row for many in range(7) for row in itertools.combinations(range(6), many)]
        self.check(show_label, read_label, [("label", level, row) for level in (0, 7) for row in marks])
        self.none(read_label, ["", "8", "10", "00", "01", "-1", "+1", " 1", "1 ", "3:", "3:20", "3:00", "3:6", "3:0:1",
                               ":1", "3.1", "3:0 1", "3:-", "a", "\u0663", "\u00b2", "3:\u0661"])

    def test_paths(self):
        self.assertEqual(show_path(("a", "b7", "12345678", "z")), "a/b7/12345678/z")
        self.check(show_path, read_path, [("a",), ("a", "b7"), ("0", "z", "a1"), ("12345678", "b", "c", "d")])
        self.none(read_path, ["", "/", "a/", "/a", "a//b", "a/b/c/d/e", "123456789", "A", "a b", "a.b", "\u0663"])

    def test_ids(self):
        self.assertEqual([show_id(name("ann", 7, label(3, 0, 2, 5))), show_id(ANN)], ["3:025.ann.7", "0.ann.1"])
        ids = [name("a", 1), name("abcdefgh", 99999, label(7, 5)), name("bo", 10, label(1, 0, 3))]
        self.check(show_id, read_id, ids)
        self.none(read_id, ["", "0.ann", "0.ann.0", "0.ann.01", "0.ann.100000", "0.ann.-1", "0.ann.+1", "0..1",
                            "0.Ann.1", "0.a1.1", "0.abcdefghi.1", "8.ann.1", ".ann.1", "0.ann.", "0.ann.1.", "0.ann.1 ",
                            "0.ann.1_0", "0.ann.\u0661", "0.ann." + "1" * 5000])

    def test_vertices(self):
        self.assertEqual(show_vertex((name("ann", 7, label(3, 0)), 2, 13)), "3:0.ann.7.2.13")
        vertices = [(ANN, 0, 0), (ANN, 11, 199), (name("abcdefgh", 99999, label(7, 5)), 10, 20)]
        self.check(show_vertex, read_vertex, vertices)
        self.none(read_vertex, ["", "0.ann.1", "0.ann.1.0", "0.ann.1.12.0", "0.ann.1.0.200", "0.ann.1.00.0",
                                "0.ann.1.0.00", "0.ann.1.01.0", "0.ann.1.0.01", "0.ann.1.0.-1", "0.ann.1..0", "0.ann.1.0.",
                                "0.bo.01.0.0", "0.ann.1.0.0.0", "0.ann.1.0." + "1" * 5000])


ALL = [("add", ("b", "1")), ("lines", (BOB, 0, 0), [], [], ["x"]),
       ("lines", FILE, [(ANN, 1, 0), (ANN, 1, 2)], [(EVE, 1, 0)], ["", "|", "end", "patch 0.ann.1"]),
       ("cut", FILE, [(ANN, 1, 0), (ANN, 1, 1)]), ("order", FILE, (EVE, 1, 1), (ANN, 1, 0)),
       ("move", FILE, ("c",), [FILE, (EVE, 2, 0)]), ("drop", FILE, [(EVE, 2, 0)]), ("back", EVE)]
ALL_LINES = ["patch 0.bob.1", "note note  x ", "add b/1", "lines 0.bob.1.0.0 - - 1", "|x",
             "lines 0.ann.1.0.0 0.ann.1.1.0,0.ann.1.1.2 0.eve.1.1.0 4", "|", "||", "|end", "|patch 0.ann.1",
             "cut 0.ann.1.0.0 0.ann.1.1.0,0.ann.1.1.1", "order 0.ann.1.0.0 0.eve.1.1.1 0.ann.1.1.0",
             "move 0.ann.1.0.0 c 0.ann.1.0.0,0.eve.1.2.0", "drop 0.ann.1.0.0 0.eve.1.2.0", "back 0.eve.1", "end"]


class PatchTest(unittest.TestCase):
    def wrong(self, at, lines, read=read_patch):
        with self.assertRaises(WrittenError) as caught:
            read(lines)
        self.assertEqual(caught.exception.at, at, lines)

    def test_all_changes(self):
        made = patch(BOB, *ALL, note="note  x ")
        self.assertEqual(show_patch(made), ALL_LINES)
        self.assertEqual(read_patch(ALL_LINES), made)
        self.assertEqual(show_patch(start()), ["patch 0.ann.1", "note start", "add a", "end"])

    def test_random_patches_come_back(self):
        rows = [row for seed in range(10) for row in random_rows(seed, 10, label(seed % 8, 1, 4))]
        texts = {}
        for row in rows:
            lines = show_patch(row)
            self.assertEqual(read_patch(lines), row)
            self.assertEqual(texts.setdefault("\n".join(lines), row), row)
        self.assertEqual(show_patches(rows), [line for row in rows for line in show_patch(row)])
        self.assertEqual(read_patches(show_patches(rows)), rows)

    def test_no_patches(self):
        self.assertEqual([show_patches([]), read_patches([])], [[], []])
        self.wrong(0, [])

    def test_lines_that_end_too_early(self):
        for many in range(len(ALL_LINES)):
            self.wrong(many, ALL_LINES[:many])
        for many in range(1, len(ALL_LINES)):
            self.wrong(len(ALL_LINES) + many, ALL_LINES + ALL_LINES[:many], read_patches)

    def test_lines_behind_the_end(self):
        self.wrong(len(ALL_LINES), ALL_LINES + ["end"])
        self.wrong(len(ALL_LINES), ALL_LINES + [""])
        self.wrong(len(ALL_LINES), ALL_LINES + ALL_LINES)
        self.assertEqual(len(read_patches(ALL_LINES + ALL_LINES)), 2)
        self.wrong(len(ALL_LINES), ALL_LINES + ["end"], read_patches)

    def test_lines_that_do_not_fit(self):
        head = ["patch 0.bob.1", "note "]
        for line in ["patch", "patch ", "patch  0.bob.1", "patch 0.bob.1 ", "patch 0.bob.0", "Patch 0.bob.1", " patch 0.bob.1",
                     "note ", ""]:
            self.wrong(0, [line] + ALL_LINES[1:])
        for line in ["note", "notex", "note " + "x" * 41, "note a\nb", "Note ", "", " note "]:
            self.wrong(1, head[:1] + [line] + ALL_LINES[2:])
        file, one, two = "0.ann.1.0.0", "0.ann.1.1.0", "0.ann.1.1.1"
        for line in ["end", "", " ", "add", "add ", "add A", "add a b", "add  a", "add a ", "add a/b/c/d/e", "added a",
                     "drop " + file, f"drop {file} -", f"drop {file} {two},{one}", f"drop {file} {one},{one}",
                     f"drop {file} {one},", f"drop {file}  {one}", f"drop {file} {one} {two}", f"drop a {one}",
                     f"drop {file} {one}, {two}", f"drop - {one}",
                     f"move {file} c -", f"move {file} C {file}", f"move {file} {file} c", f"move {file} c",
                     f"cut {file} -", f"cut {file} {two},{one}", f"cut {file}", f"cut {file} {one},-", f"cut - {one}",
                     f"order {file} {one} {one}", f"order {file} {one}", f"order {file} {one} {two} {two}",
                     f"order {file} - {two}", f"order {file} {one},{two} {two}",
                     "back", "back 0.bob.0", "back 0.eve.1 ", "back 0.eve.1.0.0", "|x", "patch 0.bob.1", "note ",
                     f"lines {file} - - 0", f"lines {file} - - 201", f"lines {file} - - 01", f"lines {file} - -",
                     f"lines {file} - - 1 ", f"lines {file} - - -1", f"lines {file} - - x", f"lines - - - 1",
                     f"lines {file} {two},{one} - 1", f"lines {file} - {one},{one} 1", f"lines {file} 1", "lines"]:
            self.wrong(2, head + [line] + ALL_LINES[3:])
            self.wrong(18, ALL_LINES + head + [line] + ALL_LINES[3:], read_patches)

    def test_texts_that_do_not_fit(self):
        head = ["patch 0.bob.1", "note ", "lines 0.ann.1.0.0 - - 3", "|x"]
        for line in ["x", "", " |x", "|" + "x" * 41, "|a\nb", "|\u00e4", "end", "add a"]:
            self.wrong(4, head + [line, "|", "end"])
        self.wrong(5, head + ["|" + "x" * 40, "end"])
        self.wrong(6, head + ["|", "|", "|"])
        self.assertEqual(read_patch(head + ["|", "|end", "end"])[2][0][4], ["x", "", "end"])

    def test_bounds(self):
        file = (ANN, 0, 0)
        long = [(ANN, place, k) for place in (1, 2) for k in range(200)]
        for change in [("cut", file, long[:200]), ("lines", file, long[:12], long[:12], ["x"] * 200),
                       ("drop", file, long[:12]), ("move", file, ("b",), long[:12])]:
            made = patch(BOB, change)
            self.assertEqual(read_patch(show_patch(made)), made)
        for change in [("cut", file, long[:201]), ("lines", file, long[:13], [], ["x"]), ("drop", file, long[:13]),
                       ("lines", file, [], long[:13], ["x"]), ("lines", file, [], [], ["x"] * 201),
                       ("move", file, ("b",), long[:13]), ("lines", file, [], [], [])]:
            self.wrong(2, show_patch(patch(BOB, change)))
        most = patch(BOB, *[("add", ("a",))] * 12)
        self.assertEqual(read_patch(show_patch(most)), most)
        self.wrong(14, show_patch(patch(BOB, *[("add", ("a",))] * 13)))

    def test_whether_vertices_exist_is_not_looked_at(self):
        made = patch(BOB, ("cut", (BOB, 11, 7), [(name("eve", 9, label(4)), 3, 3)]), ("back", name("eve", 9, label(5))))
        self.assertEqual(read_patch(show_patch(made)), made)

    def test_changed_lines(self):
        """Whatever is done to the lines: either another patch is read, or the index tells the first wrong line."""
        rng = random.Random(5)
        rows = [line for row in random_rows(3, 4) for line in show_patch(row)]
        for _ in range(1500):
            lines = list(rows)
            at, other = rng.randrange(len(lines)), rng.randrange(len(lines))
            deed = rng.choice(["out", "twice", "swap", "in", "change"])
            if deed == "out":
                del lines[at]
            elif deed == "twice":
                lines.insert(at, lines[at])
            elif deed == "swap":
                lines[at], lines[other] = lines[other], lines[at]
            elif deed == "in":
                lines.insert(at, lines[other])
            else:
                lines[at] = rng.choice(list(near(lines[at])))
            try:
                self.assertEqual(show_patches(read_patches(lines)), lines)
            except WrittenError as error:
                self.assertGreaterEqual(error.at, min(at, other) if deed == "swap" else at)
                self.assertTrue(self.begins(lines[:error.at]))
                self.assertFalse(error.at < len(lines) and self.begins(lines[:error.at + 1]))

    def begins(self, lines):
        """Whether lines begin the written lines of some patches: they can be read, or end too early."""
        try:
            read_patches(lines)
        except WrittenError as error:
            return error.at == len(lines)
        return True


if __name__ == "__main__":
    unittest.main()
