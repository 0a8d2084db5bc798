"""Points 43 to 46: sets."""

import random
import unittest

from build import (ANN, BOB, EVE, FILE, closed, label, name, patch, random_rows, slow_counted, slow_needs,
                   slow_standing, start)
from quiltward.errors import ClashError, NeededError, PatchError
from quiltward.patches import check_fits
from quiltward.sets import (all_needs, clashes, closure, counted, dependents, is_set, order_of, order_right, set_of,
                            standing, union, with_patch, without)

TWO = name("ann", 2)
CHAIN = [start("x"), patch(BOB, ("cut", FILE, [(ANN, 1, 0)])), patch(EVE, ("back", BOB)), patch(TWO, ("add", ("b",)))]


def table(rows):
    return {row[1]: row for row in rows}


def slow_is_set(patches):
    """Point 43 as it stands: some patch fits the set of the others, and none of them needs it."""
    if not patches:
        return True
    for one in patches:
        others = {other: patches[other] for other in patches if other != one}
        if patches[one][1] == one and not any(one in slow_needs(row) for row in others.values()):
            try:
                check_fits(others, patches[one])
            except PatchError:
                continue
            if slow_is_set(others):
                return True
    return False


def slow_order(patches):
    order = []
    while len(order) < len(patches):
        order.append(min(one for one in patches
                         if one not in order and all(other in order for other in slow_needs(patches[one]))))
    return order


def slow_reach(links, one):
    found = set()
    left = [one]
    while left:
        for other in links[left.pop()]:
            if other not in found:
                found.add(other)
                left.append(other)
    return sorted(found)


class SetTest(unittest.TestCase):
    def test_any_order_gives_the_same_set(self):
        for seed in range(10):
            rng = random.Random(seed)
            rows = random_rows(seed, 10)
            want = table(rows)
            self.assertEqual(set_of(rows), want)
            for _ in range(5):
                left, order = list(rows), []
                while left:
                    ready = [row for row in left if all(one in table(order) for one in slow_needs(row))]
                    order.append(rng.choice(ready))
                    left.remove(order[-1])
                self.assertEqual(set_of(order), want)
                self.assertTrue(order_right(want, [row[1] for row in order]))
                self.assertTrue(is_set(want))

    def test_set_of_raises_as_soon_as_one_does_not_fit(self):
        with self.assertRaises(PatchError) as caught:
            set_of([CHAIN[1], CHAIN[0]])
        self.assertEqual(caught.exception.place, 0)
        with self.assertRaises(PatchError) as caught:
            set_of([CHAIN[0], CHAIN[0]])
        self.assertEqual(caught.exception.place, -1)
        self.assertEqual(set_of([]), {})

    def test_with_patch_returns_another_dict(self):
        one = {}
        two = with_patch(one, CHAIN[0])
        three = with_patch(two, CHAIN[1])
        self.assertEqual([one, two, three], [{}, table(CHAIN[:1]), table(CHAIN[:2])])
        with self.assertRaises(PatchError) as caught:
            with_patch(three, CHAIN[1])
        self.assertEqual(caught.exception.place, -1)
        with self.assertRaises(PatchError) as caught:
            with_patch(three, patch(EVE, ("add", ("a",)), ("back", name("eve", 3))))
        self.assertEqual(caught.exception.place, 1)
        self.assertEqual(three, table(CHAIN[:2]))

    def test_is_set(self):
        whole = table(CHAIN)
        self.assertIs(is_set(whole), True)
        self.assertIs(is_set({}), True)
        for left_out, right in [(ANN, False), (BOB, False), (EVE, True), (TWO, True)]:
            part = {one: whole[one] for one in whole if one != left_out}
            self.assertIs(is_set(part), right)

    def test_is_set_with_wrong_keys_and_labels(self):
        self.assertFalse(is_set({BOB: CHAIN[0]}))
        self.assertFalse(is_set({ANN: CHAIN[3], TWO: CHAIN[0]}))
        other = name("bob", 3, label(1))
        self.assertFalse(is_set({ANN: CHAIN[0], other: patch(other, ("add", ("b",)))}))
        self.assertFalse(is_set({other: patch(other, ("add", ("b",))), ANN: CHAIN[0]}))

    def test_is_set_with_patches_that_are_not_well_formed(self):
        for row in [patch(BOB), patch(BOB, ("add", ())), patch(BOB, ("add", ("b",)), note="\n"),
                    patch(BOB, ("back", BOB)), patch(BOB, ("cut", FILE, [(BOB, 1, 0)])),
                    patch(name("bob", 0), ("add", ("b",)))]:
            self.assertFalse(is_set({ANN: CHAIN[0], row[1]: row}))
            self.assertFalse(is_set({row[1]: row, ANN: CHAIN[0]}))

    def test_is_set_with_vertices_of_another_kind(self):
        for change in [("cut", FILE, [FILE]), ("cut", FILE, [(ANN, 1, 1)]), ("drop", FILE, [(ANN, 1, 0)]),
                       ("drop", (TWO, 0, 0), [FILE]), ("cut", (TWO, 0, 0), [(ANN, 1, 0)])]:
            self.assertFalse(is_set({**table([CHAIN[0], CHAIN[3]]), BOB: patch(BOB, change)}), change)

    def test_no_patch_needs_itself_through_others(self):
        one = patch(ANN, ("add", ("a",)), ("cut", (BOB, 0, 0), [(BOB, 1, 0)]))
        two = patch(BOB, ("add", ("b",)), ("lines", (BOB, 0, 0), [], [], ["x"]), ("back", ANN))
        self.assertFalse(is_set(table([one, two])))
        self.assertFalse(is_set(table([one, two, CHAIN[3]])))
        rings = [patch(name("ann", k), ("back", name("ann", (k + 1) % 3 + 1))) for k in [1, 2, 3]]
        self.assertFalse(is_set(table(rings)))

    def test_is_set_as_it_is_told(self):
        for seed in range(40):
            rng = random.Random(seed)
            rows = random_rows(seed, 5) + random_rows(seed + 100, 2)
            patches = table(rng.sample(rows, rng.randint(2, 5)))
            self.assertEqual(is_set(patches), slow_is_set(patches))

    def test_orders(self):
        whole = table(CHAIN[::-1])
        self.assertEqual(order_of(whole), [ANN, TWO, BOB, EVE])
        self.assertEqual(order_of({}), [])
        for seed in range(15):
            patches = table(random_rows(seed, 12))
            self.assertEqual(order_of(patches), slow_order(patches))

    def test_order_right(self):
        whole = table(CHAIN)
        for right in [[ANN, TWO, BOB, EVE], [TWO, ANN, BOB, EVE], [ANN, BOB, EVE, TWO]]:
            self.assertIs(order_right(whole, right), True)
        for wrong in [[ANN, BOB, EVE], [ANN, TWO, BOB, EVE, TWO], [BOB, ANN, TWO, EVE], [ANN, BOB, BOB, EVE], [],
                      [ANN, TWO, EVE, BOB], [ANN, TWO, BOB, name("eve", 2)]]:
            self.assertIs(order_right(whole, wrong), False)
        self.assertIs(order_right({}, []), True)


class PartsTest(unittest.TestCase):
    def test_without(self):
        whole = table(CHAIN)
        self.assertEqual(without(whole, TWO), table(CHAIN[:3]))
        self.assertEqual(without(whole, EVE), table([CHAIN[0], CHAIN[1], CHAIN[3]]))
        for one, ids in [(ANN, [BOB, EVE]), (BOB, [EVE])]:
            with self.assertRaises(NeededError) as caught:
                without(whole, one)
            self.assertEqual(caught.exception.ids, ids)
        self.assertEqual(whole, table(CHAIN))

    def test_dependents_and_needs(self):
        whole = table(CHAIN)
        self.assertEqual([dependents(whole, one) for one in [ANN, BOB, EVE, TWO]], [[BOB, EVE], [EVE], [], []])
        self.assertEqual([all_needs(whole, one) for one in [ANN, BOB, EVE, TWO]], [[], [ANN], [ANN, BOB], []])

    def test_parts_of_random_sets(self):
        for seed in range(15):
            rows = random_rows(seed, 12)
            patches = table(rows)
            ahead = {one: slow_needs(patches[one]) for one in patches}
            back = {one: [other for other in patches if one in ahead[other]] for one in patches}
            for one in patches:
                self.assertEqual(all_needs(patches, one), slow_reach(ahead, one))
                self.assertEqual(dependents(patches, one), slow_reach(back, one))
            ids = random.Random(seed).sample(sorted(patches), 3)
            self.assertEqual(closure(patches, ids + ids), table(closed(rows, ids)))
            self.assertTrue(is_set(closure(patches, ids)))
            self.assertEqual(closure(patches, []), {})

    def test_clashes_and_union(self):
        one, other = table(CHAIN[:3]), table([CHAIN[0], CHAIN[3]])
        self.assertEqual(clashes(one, other), [])
        self.assertEqual(union(one, other), table(CHAIN))
        self.assertEqual(union(other, one), table(CHAIN))
        self.assertEqual(union({}, one), one)
        wrong = table([patch(EVE, ("add", ("b",))), start("y"), patch(BOB, ("cut", FILE, [(ANN, 1, 0)]))])
        self.assertEqual(clashes(one, wrong), [ANN, EVE])
        with self.assertRaises(ClashError) as caught:
            union(one, wrong)
        self.assertEqual(caught.exception.ids, [ANN, EVE])
        self.assertEqual(clashes(wrong, one), [ANN, EVE])
        self.assertEqual([one, other], [table(CHAIN[:3]), table([CHAIN[0], CHAIN[3]])])


class StandingTest(unittest.TestCase):
    def test_taken_back_and_back_again(self):
        rows = [start("x")] + [patch(name("bob", k), ("back", name("bob", k - 1) if k > 1 else ANN)) for k in range(1, 6)]
        ids = [row[1] for row in rows]
        for many in range(1, 7):
            stands = [ids[k] for k in range(many) if (many - 1 - k) % 2 == 0]
            self.assertEqual(standing(table(rows[:many])), dict.fromkeys(stands, True))
            self.assertEqual(counted(table(rows[:many])), dict.fromkeys(stands, True))

    def test_several_take_back(self):
        rows = [start("x"), patch(BOB, ("back", ANN)), patch(EVE, ("back", ANN), ("add", ("b",)))]
        self.assertEqual(standing(table(rows)), {BOB: True, EVE: True})
        rows.append(patch(name("eve", 2), ("back", BOB)))
        self.assertEqual(standing(table(rows)), {EVE: True, name("eve", 2): True})
        rows.append(patch(name("eve", 3), ("back", EVE)))
        self.assertEqual(standing(table(rows)), {ANN: True, name("eve", 2): True, name("eve", 3): True})

    def test_counted_by_vertices_of_those_that_count(self):
        rows = [start("x"), patch(BOB, ("lines", FILE, [(ANN, 1, 0)], [], ["y"])),
                patch(EVE, ("lines", FILE, [(BOB, 0, 0)], [], ["z"])), patch(TWO, ("back", ANN), ("back", BOB))]
        self.assertEqual(standing(table(rows)), {EVE: True, TWO: True})
        self.assertEqual(counted(table(rows)), {EVE: True, TWO: True, BOB: True, ANN: True})
        rows.append(patch(name("ann", 3), ("back", EVE)))
        self.assertEqual(counted(table(rows)), {TWO: True, name("ann", 3): True})

    def test_random_sets(self):
        for seed in range(60):
            patches = table(random_rows(seed, 14))
            self.assertEqual(standing(patches), slow_standing(patches))
            self.assertEqual(counted(patches), slow_counted(patches))


if __name__ == "__main__":
    unittest.main()
