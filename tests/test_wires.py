"""Points 110 to 113: wires."""

import copy
import random
import unittest

from build import ANN, BOB, EVE, FILE, PUBLIC, closed, label, name, patch, random_patch, random_rows, start
from quiltward.errors import PatchError
from quiltward.sets import is_set, order_of, set_of, union
from quiltward.wires import End

MID = label(1, 2)
ONE = start("x", "y")
TWO = patch(BOB, ("lines", FILE, [(ANN, 1, 0)], [], ["b"]))
THREE = patch(EVE, ("cut", FILE, [(BOB, 0, 0)]))
FOUR = patch(name("eve", 2), ("back", EVE))
LONE = patch(name("dan", 1), ("add", ("z",)))
DAN, LAST = name("dan", 1), name("eve", 2)
WHOLE = set_of([ONE, TWO, THREE, FOUR, LONE])


def told(ids, rows, at=PUBLIC):
    """A message."""
    return at, sorted(ids), list(rows)


class MessageTest(unittest.TestCase):
    def test_a_new_end(self):
        end = End(PUBLIC, {})
        self.assertEqual((end.patches, end.known(), end.waiting()), ({}, [], []))
        self.assertEqual(end.message(), (PUBLIC, [], []))
        end = End(PUBLIC, WHOLE)
        self.assertEqual((end.patches, end.known(), end.waiting()), (WHOLE, [], []))
        self.assertIsNot(end.patches, WHOLE)

    def test_a_message(self):
        message = End(PUBLIC, WHOLE).message()
        self.assertIsInstance(message, tuple)
        self.assertEqual(message, (PUBLIC, [ANN, BOB, DAN, EVE, LAST], [WHOLE[one] for one in order_of(WHOLE)]))
        self.assertEqual(order_of(WHOLE), [ANN, BOB, DAN, EVE, LAST])
        rows = [patch(name("bob", 1), ("add", ("a",))), patch(name("ann", 1), ("back", name("bob", 1)))]
        self.assertEqual([row[1] for row in End(PUBLIC, set_of(rows)).message()[2]], [name("bob", 1), name("ann", 1)])

    def test_what_is_known_is_not_sent(self):
        end = End(PUBLIC, WHOLE)
        end.receive(told([BOB, ANN, name("zed", 5)], []))
        self.assertEqual(end.known(), [ANN, BOB, name("zed", 5)])
        self.assertEqual(end.message(), told(WHOLE, [LONE, THREE, FOUR]))
        end.receive(told([DAN], []))
        self.assertEqual(end.message(), told(WHOLE, [THREE, FOUR]))
        self.assertEqual(end.known(), [ANN, BOB, DAN, name("zed", 5)])
        end.receive(told([EVE, LAST], []))
        self.assertEqual(end.message(), told(WHOLE, []))


class ReceiveTest(unittest.TestCase):
    def setUp(self):
        self.end = End(PUBLIC, {})

    def state(self):
        return sorted(self.end.patches), self.end.known(), self.end.waiting()

    def test_patches_that_are_ready(self):
        self.end.receive(told([ANN, BOB], [ONE, TWO]))
        self.assertEqual(self.state(), ([ANN, BOB], [ANN, BOB], []))
        self.end.receive(told([ANN, BOB], [TWO, ONE]))
        self.assertEqual(self.state(), ([ANN, BOB], [ANN, BOB], []))
        self.end.receive(told([ANN, BOB, EVE], [FOUR, THREE]))
        self.assertEqual(self.state(), ([ANN, BOB, EVE, LAST], [ANN, BOB, EVE], []))

    def test_patches_whose_needs_have_not_come(self):
        self.end.receive(told(WHOLE, [FOUR, THREE]))
        self.assertEqual(self.state(), ([], sorted(WHOLE), [EVE, LAST]))
        # What is known of the other end has not come here, and is not told.
        self.assertEqual(self.end.message(), told([], []))
        self.end.receive(told(WHOLE, [TWO]))
        self.assertEqual(self.state(), ([], sorted(WHOLE), [BOB, EVE, LAST]))
        self.end.receive(told([], [LONE]))
        self.assertEqual(self.state(), ([DAN], sorted(WHOLE), [BOB, EVE, LAST]))
        self.end.receive(told([], [ONE]))
        self.assertEqual(self.state(), (sorted(WHOLE), sorted(WHOLE), []))
        self.assertEqual(self.end.patches, WHOLE)

    def test_messages_of_another_label(self):
        self.end.receive(told(WHOLE, [ONE, TWO], MID))
        self.assertEqual(self.state(), ([], [], []))
        end = End(MID, {})
        end.receive(told([ANN], [ONE]))
        self.assertEqual((end.patches, end.known(), end.waiting()), ({}, [], []))

    def test_patches_of_another_label(self):
        end = End(MID, {})
        end.receive((MID, [], [ONE, start("m", one=name("bob", 1, MID))]))
        self.assertEqual((sorted(end.patches), end.waiting()), ([name("bob", 1, MID)], []))

    def test_another_patch_with_an_id_that_is_there(self):
        self.end.receive(told([], [ONE, TWO]))
        self.end.receive(told([], [start("other"), patch(BOB, ("add", ("q",)))]))
        self.assertEqual(self.end.patches, set_of([ONE, TWO]))
        self.assertEqual(self.end.waiting(), [])

    def test_another_patch_with_an_id_that_waits(self):
        self.end.receive(told([], [TWO]))
        self.end.receive(told([], [patch(BOB, ("add", ("q",))), TWO]))
        self.assertEqual(self.state(), ([], [], [BOB]))
        self.end.receive(told([], [ONE]))
        self.assertEqual(self.end.patches, set_of([ONE, TWO]))
        # In one message the first one of both counts.
        end = End(PUBLIC, {})
        end.receive(told([], [TWO, patch(BOB, ("add", ("q",))), ONE]))
        self.assertEqual(end.patches, set_of([ONE, TWO]))

    def test_a_patch_that_does_not_fit_when_its_turn_comes(self):
        bad = patch(BOB, ("cut", FILE, [(ANN, 1, 7)]))
        self.end.receive(told([], [bad, patch(EVE, ("back", BOB))]))
        self.assertEqual(self.state(), ([], [], [BOB, EVE]))
        self.end.receive(told([], [ONE]))
        self.assertEqual(self.state(), ([ANN], [], [EVE]))
        # It was left aside, so the right one may still come.
        self.end.receive(told([], [TWO]))
        self.assertEqual(self.state(), ([ANN, BOB, EVE], [], []))

    def test_a_patch_that_is_not_well_formed(self):
        self.end.receive(told([], [patch(ANN), patch(BOB, ("add", ("A",))), patch(name("ann", 0), ("add", ("a",))), LONE]))
        self.assertEqual(self.state(), ([DAN], [], []))

    def test_the_least_id_comes_first(self):
        rows = [patch(name("ann", k), ("add", ("a",))) for k in [3, 1, 2]]
        self.end.receive(told([], rows))
        self.assertEqual(list(self.end.patches), [name("ann", k) for k in [1, 2, 3]])
        end = End(PUBLIC, {})
        first = patch(name("bob", 2), ("add", ("a",)))
        end.receive(told([], [patch(name("ann", 1), ("back", first[1])), patch(name("cid", 1), ("add", ("c",))), first]))
        self.assertEqual(list(end.patches), [first[1], name("ann", 1), name("cid", 1)])

    def test_sets_that_were_seen_stay_as_they_are(self):
        before = self.end.patches
        self.end.receive(told([], [ONE]))
        self.assertEqual(before, {})
        before = self.end.patches
        self.end.add(TWO)
        self.assertEqual(before, set_of([ONE]))


class AddTest(unittest.TestCase):
    def test_add(self):
        end = End(PUBLIC, {})
        self.assertIsNone(end.add(ONE))
        end.add(TWO)
        self.assertEqual((end.patches, end.known()), (set_of([ONE, TWO]), []))

    def test_waiting_patches_that_become_ready(self):
        end = End(PUBLIC, {})
        end.receive(told([], [FOUR, TWO, THREE]))
        end.add(LONE)
        self.assertEqual(end.waiting(), [BOB, EVE, LAST])
        end.add(ONE)
        self.assertEqual((end.patches, end.waiting()), (WHOLE, []))

    def test_one_that_waits(self):
        end = End(PUBLIC, {})
        end.receive(told([], [TWO, THREE]))
        with self.assertRaises(PatchError) as caught:
            end.add(TWO)
        self.assertEqual((caught.exception.place, end.patches, end.waiting()), (0, {}, [BOB, EVE]))
        end.add(ONE)
        self.assertEqual((sorted(end.patches), end.waiting()), ([ANN, BOB, EVE], []))

    def test_another_one_with_the_id_of_one_that_waits(self):
        end = End(PUBLIC, {})
        end.receive(told([], [TWO, patch(EVE, ("back", BOB))]))
        other = patch(BOB, ("add", ("q",)))
        end.add(other)
        self.assertEqual((end.patches, end.waiting()), (set_of([other, patch(EVE, ("back", BOB))]), []))
        end.add(ONE)
        self.assertEqual(end.patches[BOB], other)

    def test_one_that_does_not_fit(self):
        end = End(PUBLIC, set_of([ONE]))
        end.receive(told([], [FOUR]))
        for bad, place in [(ONE, -1), (start("other"), -1), (patch(BOB, ("back", EVE)), 0), (patch(BOB), -1),
                           (patch(BOB, ("add", ("b",)), ("cut", FILE, [(ANN, 1, 2)])), 1),
                           (patch(name("bob", 1, MID), ("add", ("a",))), -1)]:
            with self.assertRaises(PatchError) as caught:
                end.add(bad)
            self.assertEqual(caught.exception.place, place)
            self.assertEqual((end.patches, end.waiting()), (set_of([ONE]), [LAST]))
        with self.assertRaises(PatchError):
            End(PUBLIC, {}).add(patch(name("bob", 1, MID), ("add", ("a",))))


class WireTest(unittest.TestCase):
    def ends(self, seed):
        """Two ends, with parts of a set that share some patches."""
        rng = random.Random(seed)
        rows = random_rows(seed, 10)
        parts = [set_of(closed(rows, rng.sample([row[1] for row in rows], rng.randint(0, 6)))) for _ in range(2)]
        return rng, End(PUBLIC, parts[0]), End(PUBLIC, parts[1])

    def check_known(self, one, other):
        for mine, theirs in [(one, other), (other, one)]:
            self.assertLessEqual(set(mine.known()), set(theirs.patches))
            self.assertTrue(is_set(mine.patches))

    def test_messages_lost_doubled_late_and_out_of_order(self):
        for seed in range(60):
            rng, one, other = self.ends(seed)
            under_way, hands = [], {one: "fay", other: "gus"}
            for _ in range(30):
                mine, theirs = rng.choice([(one, other), (other, one)])
                word = rng.choice(["send", "send", "come", "come", "come", "add"])
                if word == "send":
                    under_way.append((theirs, mine.message()))
                elif word == "add":
                    numbers = [two[2] for two in mine.patches if two[1] == hands[mine]]
                    new = name(hands[mine], max(numbers, default=0) + 1)
                    mine.add(random_patch(rng, list(mine.patches.values()), new))
                elif under_way:
                    # A message may come several times, or never.
                    theirs, message = under_way[rng.randrange(len(under_way))]
                    theirs.receive(message)
                    if rng.random() < 0.5:
                        under_way.remove((theirs, message))
                self.check_known(one, other)
            whole = union(one.patches, other.patches)
            other.receive(one.message())
            one.receive(other.message())
            self.assertEqual((one.patches, other.patches), (whole, whole))
            self.assertEqual((one.waiting(), other.waiting()), ([], []))
            other.receive(one.message())
            one.receive(other.message())
            ids = sorted(whole)
            self.assertEqual((one.message(), other.message()), ((PUBLIC, ids, []), (PUBLIC, ids, [])))
            # What is under way still changes nothing.
            for theirs, message in rng.sample(under_way, len(under_way)):
                theirs.receive(message)
            self.assertEqual((one.patches, other.patches, one.message()[2]), (whole, whole, []))

    def test_both_messages_made_before_they_come(self):
        for seed in range(20):
            _, one, other = self.ends(seed)
            whole = union(one.patches, other.patches)
            first, second = one.message(), other.message()
            other.receive(first)
            one.receive(second)
            self.assertEqual((one.patches, other.patches), (whole, whole))

    def test_parts_of_messages(self):
        # Patches in any order, in messages of their own: in the end all are there.
        for seed in range(30):
            rng = random.Random(seed)
            rows = random_rows(seed, 10)
            end = End(PUBLIC, {})
            for row in rng.sample(rows, len(rows)):
                end.receive(told([row[1]], [row]))
                self.assertTrue(is_set(end.patches))
                self.assertEqual(sorted(end.waiting() + list(end.patches)), end.known())
            self.assertEqual((end.patches, end.waiting()), (set_of(rows), []))

    def test_what_is_sent_depends_on_the_sets_alone(self):
        for seed in range(10):
            _, one, other = self.ends(seed)
            again = End(PUBLIC, copy.deepcopy(one.patches))
            for _ in range(2):
                self.assertEqual(again.message(), one.message())
                for end in (one, again):
                    end.receive(other.message())


if __name__ == "__main__":
    unittest.main()
