"""Points 40, 41 and 42: patches."""

import unittest

from build import ANN, BOB, EVE, FILE, PUBLIC, label, name, patch, random_rows, slow_needs, start
from quiltward.errors import PatchError
from quiltward.patches import (backs, check_fits, check_patch, is_id, is_label, is_path, is_text, made_by, needs,
                               vertex_needs)
from quiltward.sets import set_of

NEW = (BOB, 0, 0)


def lines(*texts, file=FILE, ups=(), downs=()):
    return ("lines", file, list(ups), list(downs), list(texts))


class KindsTest(unittest.TestCase):
    def test_labels(self):
        for right in [label(0), label(7), label(3, 0, 2, 5), label(0, 0, 1, 2, 3, 4, 5)]:
            self.assertIs(is_label(right), True)
        for wrong in [label(8), label(-1), label(0, 6), label(0, -1), label(0, 2, 1), label(0, 1, 1),
                      ("labels", 0, ()), ("", 0, ())]:
            self.assertIs(is_label(wrong), False, wrong)

    def test_ids(self):
        for right in [ANN, name("a", 99999), name("abcdefgh", 1), name("z", 1, label(7, 5))]:
            self.assertIs(is_id(right), True)
        for wrong in [name("", 1), name("abcdefghi", 1), name("Ann", 1), name("a1", 1), name("a b", 1),
                      name("\u00e4", 1), name("a", 0), name("a", 100000), name("a", -1), name("a", 1, label(8))]:
            self.assertIs(is_id(wrong), False, wrong)

    def test_paths(self):
        for right in [("a",), ("a", "b", "c", "d"), ("12345678",), ("a1", "0")]:
            self.assertIs(is_path(right), True)
        for wrong in [(), ("a", "b", "c", "d", "e"), ("",), ("a", ""), ("123456789",), ("A",), ("a/b",), ("\u0663",)]:
            self.assertIs(is_path(wrong), False, wrong)

    def test_texts(self):
        for right in ["", " ", "~", "x" * 40, " a ~ "]:
            self.assertIs(is_text(right), True)
        for wrong in ["x" * 41, "\n", "a\n", "\t", "\x7f", "\x1f", "\u00e4"]:
            self.assertIs(is_text(wrong), False, wrong)


class NeedsTest(unittest.TestCase):
    def test_each_place_of_a_vertex_counts(self):
        ids = [name("ann", k) for k in range(1, 9)]
        file, *rest = [(one, 0, 0) for one in ids]
        made = patch(BOB, ("move", file, ("b",), [rest[0]]), ("drop", file, [rest[1]]),
                     lines("x", file=file, ups=[rest[2]], downs=[rest[3]]), ("cut", file, [rest[4]]),
                     ("order", file, rest[5], rest[6]), ("back", EVE))
        self.assertEqual(vertex_needs(made), ids)
        self.assertEqual(backs(made), [EVE])
        self.assertEqual(needs(made), ids + [EVE])

    def test_own_ids_are_left_out_and_others_come_once(self):
        made = patch(BOB, ("add", ("b",)), lines("x", file=NEW), ("cut", NEW, [(BOB, 1, 0)]), ("back", EVE),
                     ("back", ANN), ("back", EVE), ("cut", FILE, [(ANN, 1, 0), (ANN, 1, 1)]))
        self.assertEqual(vertex_needs(made), [ANN])
        self.assertEqual(backs(made), [ANN, EVE])
        self.assertEqual(needs(made), [ANN, EVE])
        self.assertEqual([needs(start("x")), vertex_needs(start()), backs(start())], [[], [], []])

    def test_ids_are_ascending_whatever_comes_first(self):
        last = (name("zoe", 1), 0, 0)
        made = patch(BOB, ("drop", last, [last]), ("back", EVE), ("drop", FILE, [FILE]), ("back", name("dan", 2)),
                     ("drop", (EVE, 0, 0), [(EVE, 0, 0)]), ("back", name("dan", 10)))
        self.assertEqual(vertex_needs(made), [ANN, EVE, name("zoe", 1)])
        self.assertEqual(backs(made), [name("dan", 2), name("dan", 10), EVE])
        self.assertEqual(needs(made), [ANN, name("dan", 2), name("dan", 10), EVE, name("zoe", 1)])

    def test_random_patches(self):
        for seed in range(20):
            for made in random_rows(seed, 12):
                self.assertEqual(needs(made), slow_needs(made))

    def test_what_a_patch_makes(self):
        made = patch(BOB, ("add", ("b",)), lines("x", "y", file=NEW), ("move", NEW, ("c",), [NEW]), lines("", file=FILE))
        self.assertEqual(made_by(made), [((BOB, 0, 0), None, ("b",)), ((BOB, 1, 0), NEW, "x"), ((BOB, 1, 1), NEW, "y"),
                                         ((BOB, 3, 0), FILE, "")])
        self.assertEqual(made_by(patch(BOB, ("back", ANN))), [])


class CheckTest(unittest.TestCase):
    def wrong(self, place, made, patches=None):
        """Expect a place from check_patch, or, where a set is given, from check_fits alone."""
        with self.assertRaises(PatchError) as caught:
            check_patch(made) if patches is None else check_fits(patches, made)
        self.assertEqual(caught.exception.place, place, made)
        if patches is not None and place != -1:
            self.assertIsNone(check_patch(made))

    def wrong_form(self, place, made):
        """Expect the same place from both checks."""
        self.wrong(place, made)
        with self.assertRaises(PatchError) as caught:
            check_fits({ANN: start("x", "y"), EVE: start("z", one=EVE)}, made)
        self.assertEqual(caught.exception.place, place, made)

    def right(self, made, patches):
        self.assertIsNone(check_patch(made))
        self.assertIsNone(check_fits(patches, made))

    def setUp(self):
        self.two = {ANN: start("x", "y"), EVE: start("z", one=EVE)}

    def test_id_note_and_number_of_changes(self):
        for one in [name("", 1), name("bob", 0), name("bob", 100000), name("B", 1), name("bob", 1, label(8)),
                    name("bob", 1, label(0, 1, 0))]:
            self.wrong_form(-1, patch(one, ("add", ("b",))))
        for note in ["x" * 41, "a\n", "\u00e4"]:
            self.wrong_form(-1, patch(BOB, ("add", ("b",)), note=note))
        self.wrong_form(-1, patch(BOB))
        self.wrong_form(-1, patch(BOB, *[("add", ("b",))] * 13))
        self.wrong_form(-1, patch(BOB, *[("add", ("B",))] * 13))
        self.right(patch(BOB, *[("add", ("b",))] * 12, note="x" * 40), self.two)

    def test_paths(self):
        for path in [(), ("",), ("A",), ("a",) * 5, ("123456789",)]:
            self.wrong_form(0, patch(BOB, ("add", path)))
            self.wrong_form(1, patch(BOB, ("add", ("b",)), ("move", FILE, path, [FILE])))
        self.right(patch(BOB, ("add", ("a",) * 4), ("move", FILE, ("12345678",), [FILE])), self.two)

    def test_texts(self):
        for texts in [[], ["x"] * 201, ["x" * 41], ["x", "a\nb"], ["x"] * 199 + ["\u00e4"]]:
            self.wrong_form(0, patch(BOB, lines(*texts)))
        self.right(patch(BOB, lines(*["x" * 40] * 200)), self.two)

    def test_bounds_of_lists(self):
        long = [(name("ann", 1), 1, k) for k in range(200)]
        many = {ANN: start(*["x"] * 200)}
        for made in [("cut", FILE, []), ("cut", FILE, long + [(ANN, 2, 0)]), lines("x", ups=long[:13]),
                     lines("x", downs=long[:13]), ("drop", FILE, []), ("move", FILE, ("b",), []),
                     ("drop", FILE, [(ANN, 0, k) for k in range(13)]),
                     ("move", FILE, ("b",), [(ANN, 0, k) for k in range(13)])]:
            self.wrong_form(0, patch(BOB, made))
        for made in [("cut", FILE, long), ("cut", FILE, long[:1]), lines("x", ups=long[:12], downs=long[5:17])]:
            self.right(patch(BOB, made), many)

    def test_bounds_of_names(self):
        moves = {ANN: patch(ANN, ("add", ("a",)), *[("move", FILE, ("b",), [FILE])] * 11)}
        names = [(ANN, k, 0) for k in range(12)]
        self.right(patch(BOB, ("move", FILE, ("b",), names), ("drop", FILE, names)), moves)
        moves[EVE] = patch(EVE, ("move", FILE, ("c",), [FILE]))
        self.wrong_form(0, patch(BOB, ("drop", FILE, names + [(EVE, 0, 0)])))

    def test_lists_are_ascending_without_duplicates(self):
        one, two = (ANN, 1, 0), (ANN, 1, 1)
        for row in [[two, one], [one, one], [(EVE, 1, 0), one]]:
            for made in [("cut", FILE, row), lines("x", ups=row), lines("x", downs=row)]:
                self.wrong_form(0, patch(BOB, made))
        for row in [[FILE, FILE], [(EVE, 0, 0), FILE]]:
            self.wrong_form(0, patch(BOB, ("drop", FILE, row)))
            self.wrong_form(0, patch(BOB, ("move", FILE, ("b",), row)))

    def test_vertices_are_as_told(self):
        for vertex in [(ANN, 12, 0), (ANN, -1, 0), (ANN, 1, 200), (ANN, 1, -1), (name("ann", 0), 1, 0),
                       (name("A", 1), 1, 0), (name("ann", 1, label(0, 6)), 1, 0)]:
            for made in [("drop", vertex, [FILE]), ("drop", FILE, [vertex]), ("move", FILE, ("b",), [vertex]),
                         ("cut", FILE, [vertex]), lines("x", ups=[vertex]), lines("x", downs=[vertex]),
                         ("order", FILE, vertex, (ANN, 1, 0)), ("order", FILE, (ANN, 1, 0), vertex),
                         lines("x", file=vertex)]:
                self.wrong_form(1, patch(BOB, ("add", ("b",)), made))

    def test_order_has_two_lines(self):
        self.wrong_form(0, patch(BOB, ("order", FILE, (ANN, 1, 0), (ANN, 1, 0))))
        self.right(patch(BOB, ("order", FILE, (ANN, 1, 1), (ANN, 1, 0))), self.two)

    def test_back(self):
        self.wrong_form(1, patch(BOB, ("add", ("b",)), ("back", BOB)))
        self.wrong_form(0, patch(BOB, ("back", name("bob", 0))))
        self.wrong(1, patch(BOB, ("back", ANN), ("back", name("ann", 2))), self.two)
        self.right(patch(BOB, ("back", ANN), ("back", EVE), ("back", ANN)), self.two)

    def test_own_vertices_are_made_earlier(self):
        own = [("add", ("b",)), lines("x", file=NEW), ("move", NEW, ("c",), [NEW])]
        self.right(patch(BOB, *own, ("drop", NEW, [NEW, (BOB, 2, 0)]), ("cut", NEW, [(BOB, 1, 0)])), self.two)
        for made in [("drop", (BOB, 1, 0), [NEW]), ("drop", (BOB, 2, 0), [NEW]), ("drop", (BOB, 0, 1), [NEW]),
                     ("drop", (BOB, 3, 0), [NEW]), ("drop", (BOB, 4, 0), [NEW]),
                     ("drop", NEW, [(BOB, 1, 0)]), ("drop", NEW, [(BOB, 0, 1)]), ("drop", NEW, [(BOB, 2, 1)]),
                     ("move", NEW, ("d",), [(BOB, 3, 0)]), ("move", NEW, ("d",), [(BOB, 4, 0)]),
                     ("drop", FILE, [NEW]), ("drop", FILE, [(BOB, 2, 0)]),
                     ("cut", NEW, [(BOB, 0, 0)]), ("cut", NEW, [(BOB, 1, 1)]), ("cut", NEW, [(BOB, 2, 0)]),
                     ("cut", FILE, [(BOB, 1, 0)]), lines("x", file=NEW, ups=[(BOB, 3, 0)]),
                     lines("x", file=NEW, downs=[(BOB, 4, 0)]), ("order", NEW, (BOB, 1, 0), (BOB, 1, 1))]:
            self.wrong_form(3, patch(BOB, *own, made, ("add", ("e",))))

    def test_a_second_file_of_the_same_patch_is_another_file(self):
        own = [("add", ("b",)), ("add", ("c",)), lines("x", file=NEW)]
        for made in [("cut", (BOB, 1, 0), [(BOB, 2, 0)]), ("drop", (BOB, 1, 0), [NEW])]:
            self.wrong_form(3, patch(BOB, *own, made))

    def test_other_vertices_are_made_in_the_set(self):
        last = (EVE, 0, 0)
        for made in [("drop", (name("ann", 2), 0, 0), [FILE]), ("drop", (ANN, 1, 0), [FILE]),
                     ("drop", (ANN, 2, 0), [FILE]), ("drop", (ANN, 0, 1), [FILE]),
                     ("drop", FILE, [last]), ("drop", FILE, [(ANN, 1, 0)]), ("drop", FILE, [(name("bob", 2), 0, 0)]),
                     ("cut", FILE, [(EVE, 1, 0)]), ("cut", FILE, [FILE]), ("cut", FILE, [(ANN, 1, 2)]),
                     ("cut", FILE, [(ANN, 1, 0), (ANN, 2, 0)]), ("cut", last, [(ANN, 1, 0)]),
                     lines("x", ups=[(EVE, 1, 0)]), lines("x", downs=[(EVE, 1, 0)]),
                     ("order", FILE, (ANN, 1, 0), (EVE, 1, 0)), ("order", FILE, (EVE, 1, 0), (ANN, 1, 0)),
                     ("move", FILE, ("b",), [(EVE, 0, 0)])]:
            self.wrong(1, patch(BOB, ("add", ("b",)), made, ("back", name("eve", 9))), self.two)
        self.right(patch(BOB, ("cut", FILE, [(ANN, 1, 0)]), ("cut", last, [(EVE, 1, 0)]), ("drop", last, [last])),
                   self.two)

    def test_names_of_moves(self):
        two = name("eve", 2)
        patches = set_of([start("x"), start(one=EVE), patch(two, ("move", FILE, ("b",), [FILE]))])
        self.right(patch(BOB, ("drop", FILE, [FILE, (two, 0, 0)])), patches)
        self.wrong(0, patch(BOB, ("drop", (EVE, 0, 0), [(two, 0, 0)])), patches)
        self.wrong(0, patch(BOB, ("drop", (two, 0, 0), [(two, 0, 0)])), patches)
        self.wrong(0, patch(BOB, ("cut", FILE, [(two, 0, 0)])), patches)

    def test_the_id_and_the_label_of_the_set(self):
        self.wrong(-1, patch(ANN, ("add", ("b",))), self.two)
        self.wrong(-1, patch(name("bob", 1, label(0, 0)), ("add", ("b",))), self.two)
        self.wrong(-1, patch(name("bob", 1, label(1)), ("cut", FILE, [FILE])), self.two)
        self.right(patch(name("bob", 1, label(1)), ("add", ("b",))), {})

    def test_the_first_change_that_is_not_as_told(self):
        self.wrong(0, patch(BOB, ("cut", FILE, [FILE]), ("add", ("b",)), ("back", EVE)), {})
        with self.assertRaises(PatchError) as caught:
            check_fits({}, patch(BOB, ("add", ("b",)), ("back", EVE), ("add", ())))
        self.assertEqual(caught.exception.place, 1)
        self.wrong(2, patch(BOB, ("add", ("b",)), ("back", EVE), ("add", ())))

    def test_random_patches_fit(self):
        for seed in range(30):
            patches = {}
            for made in random_rows(seed, 15, label(2, 1)):
                self.right(made, patches)
                patches[made[1]] = made
                self.wrong(-1, made, patches)


if __name__ == "__main__":
    unittest.main()
