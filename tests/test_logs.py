"""Points 105, 106 and 107: logs."""

import copy
import random
import unittest

from build import ANN, BOB, EVE, FILE, PUBLIC, label, name, patch, random_rows, start
from quiltward.errors import MissingError, NeededError, PatchError
from quiltward.logs import Log
from quiltward.sets import dependents, set_of
from quiltward.tapes import Tape, read_records
from quiltward.written import show_patch

ONE, TWO, THREE = start("x"), patch(BOB, ("cut", FILE, [(ANN, 1, 0)]), note="put\\n"), patch(EVE, ("add", ("b",)))


def put_text(made):
    return "put\n" + "\n".join(show_patch(made))


def entries_of(tape):
    rows, size = read_records(tape.areas[tape.used].data)
    assert size == len(tape.areas[tape.used].data)
    return [text for kind, text in rows if kind == 2]


def state(log):
    return {one: log.patches[one] for one in log.patches}, {word: list(log.tags[word]) for word in log.tags}


class OperationsTest(unittest.TestCase):
    def setUp(self):
        self.tape = Tape()
        self.log = Log(self.tape, PUBLIC)

    def fails(self, error, attribute, value, deed, *given):
        """Expect an error, and that neither the log nor its tape is changed."""
        before = copy.deepcopy((state(self.log), entries_of(self.tape)))
        with self.assertRaises(error) as caught:
            deed(*given)
        self.assertEqual(getattr(caught.exception, attribute), value)
        self.assertEqual((state(self.log), entries_of(self.tape)), before)

    def test_a_new_log(self):
        self.assertIs(self.log.tape, self.tape)
        self.assertEqual((self.log.label, self.log.patches, self.log.tags), (PUBLIC, {}, {}))
        self.assertEqual(self.log.entries(), [])

    def test_entries(self):
        self.log.put(ONE)
        self.log.put(TWO)
        self.log.tag("b", [ANN, BOB])
        self.log.tag("a1", [])
        self.log.tag("b", [ANN])
        self.log.untag("a1")
        self.log.out(BOB)
        self.assertEqual(entries_of(self.tape), [put_text(ONE), put_text(TWO), "tag b 0.ann.1 0.bob.1", "tag a1",
                                                 "tag b 0.ann.1", "untag a1", "out 0.bob.1"])
        self.assertEqual(state(self.log), ({ANN: ONE}, {"b": [ANN]}))
        self.assertEqual(state(Log(self.tape, PUBLIC)), state(self.log))

    def test_put(self):
        self.fails(PatchError, "place", 0, self.log.put, TWO)
        self.log.put(ONE)
        self.fails(PatchError, "place", -1, self.log.put, ONE)
        self.fails(PatchError, "place", 1, self.log.put, patch(BOB, ("add", ("b",)), ("back", EVE)))
        self.fails(PatchError, "place", -1, self.log.put, patch(BOB, ("add", ("b",)), note="\n"))
        for other in [label(1), label(0, 3)]:
            self.fails(PatchError, "place", "label", self.log.put, patch(name("bob", 1, other), ("add", ("b",))))
        other = label(2, 1)
        log = Log(Tape(), other)
        with self.assertRaises(PatchError) as caught:
            log.put(ONE)
        self.assertEqual((caught.exception.place, log.patches), ("label", {}))
        log.put(start("x", one=name("ann", 1, other)))
        self.assertEqual(entries_of(log.tape)[0].split("\n")[1], "patch 2:1.ann.1")

    def test_out(self):
        for row in [ONE, TWO, THREE]:
            self.log.put(row)
        self.fails(MissingError, "item", name("ann", 2), self.log.out, name("ann", 2))
        self.fails(NeededError, "ids", [BOB], self.log.out, ANN)
        self.log.tag("t", [ANN, BOB])
        self.fails(NeededError, "ids", [BOB], self.log.out, ANN)
        self.fails(NeededError, "ids", [], self.log.out, BOB)
        self.log.out(EVE)
        self.log.untag("t")
        self.log.out(BOB)
        self.log.out(ANN)
        self.assertEqual(state(self.log), ({}, {}))

    def test_tags(self):
        self.log.put(ONE)
        self.fails(MissingError, "item", BOB, self.log.tag, "t", [ANN, BOB, EVE])
        self.fails(MissingError, "item", "t", self.log.untag, "t")
        ids = [ANN]
        self.log.tag("t", ids)
        ids.append(BOB)
        self.assertEqual(self.log.tags, {"t": [ANN]})
        self.log.tag("t", [])
        self.assertEqual(self.log.tags, {"t": []})
        self.log.out(ANN)
        self.assertEqual(state(Log(self.tape, PUBLIC)), ({}, {"t": []}))

    def test_sets_that_were_seen_stay_as_they_are(self):
        self.log.put(ONE)
        seen = self.log.patches
        self.log.put(TWO)
        more = self.log.patches
        self.log.out(BOB)
        self.assertEqual((seen, more, self.log.patches), ({ANN: ONE}, {ANN: ONE, BOB: TWO}, {ANN: ONE}))

    def test_sync(self):
        self.log.put(ONE)
        self.log.sync()
        self.log.put(THREE)
        self.tape.crash((0, 0))
        self.assertEqual(Log(self.tape, PUBLIC).patches, {ANN: ONE})

    def test_entries_of_a_compaction(self):
        for row in [ONE, TWO, THREE, patch(name("ann", 2), ("add", ("c",)))]:
            self.log.put(row)
        self.log.tag("b", [ANN, EVE])
        self.log.tag("a", [])
        self.log.tag("9", [BOB])
        rows = self.log.entries()
        self.assertEqual([row.split("\n")[1] for row in rows[:4]],
                         ["patch 0.ann.1", "patch 0.ann.2", "patch 0.bob.1", "patch 0.eve.1"])
        self.assertEqual(rows[:1] + rows[2:4], [put_text(ONE), put_text(TWO), put_text(THREE)])
        self.assertEqual(rows[4:], ["tag 9 0.bob.1", "tag a", "tag b 0.ann.1 0.eve.1"])

    def test_operations_between_the_steps_of_a_compaction(self):
        self.log.put(ONE)
        self.log.put(THREE)
        self.log.out(EVE)
        self.tape.begin(self.log.entries())
        self.log.put(TWO)
        self.tape.mark()
        self.log.tag("t", [BOB])
        self.tape.switch()
        self.log.put(THREE)
        self.assertEqual(entries_of(self.tape), [put_text(ONE), put_text(TWO), "tag t 0.bob.1", put_text(THREE)])
        self.assertEqual(state(Log(self.tape, PUBLIC)), state(self.log))

    def test_what_a_tape_tells_depends_on_its_label_alone(self):
        both = [Log(Tape(), PUBLIC) for _ in range(2)]
        other = Log(Tape(), label(1))
        for row in [ONE, TWO]:
            both[0].put(row)
            both[1].put(row)
            other.put(start("s", one=name("ann", len(other.patches) + 1, label(1))))
        self.assertEqual(both[0].tape.areas[0].data, both[1].tape.areas[0].data)
        self.assertNotIn("1.ann", both[0].tape.areas[0].data)


class CrashTest(unittest.TestCase):
    def step(self, rng, log, spare):
        """One random operation that can be done, or that fails without a change."""
        ids = sorted(log.patches)
        deed = rng.choice(["put", "put", "put", "out", "tag", "untag"])
        try:
            if deed == "put" and spare:
                log.put(spare[0])
                spare.pop(0)
            elif deed == "out" and ids:
                log.out(rng.choice(ids))
            elif deed == "tag":
                log.tag(rng.choice(["a", "b", "c"]), sorted(rng.sample(ids, min(len(ids), 2))))
            elif deed == "untag":
                log.untag(rng.choice(["a", "b", "c"]))
        except (MissingError, NeededError, PatchError):
            pass

    def crashes(self, rng, log, states):
        spare = [len(area.data) - area.safe for area in log.tape.areas]
        for _ in range(25):
            tape = copy.deepcopy(log.tape)
            tape.crash((rng.randint(0, spare[0]), rng.choice([0, spare[1], rng.randint(0, spare[1])])))
            self.assertIn(state(Log(tape, PUBLIC)), states)

    def test_a_crash_at_any_time(self):
        for seed in range(15):
            rng = random.Random(seed)
            log, done, spare = Log(Tape(), PUBLIC), 0, random_rows(seed, 12)
            states = [state(log)]
            for _ in range(30):
                deed = rng.choice(["deed", "deed", "deed", "sync", "step"])
                if deed == "deed":
                    self.step(rng, log, spare)
                    states.append(state(log))
                elif deed == "sync":
                    log.sync()
                    states = [state(log)]
                else:
                    [lambda: log.tape.begin(log.entries()), log.tape.mark, log.tape.switch][done]()
                    states = [state(log)] if done == 2 else states
                    done = (done + 1) % 3
                self.crashes(rng, log, states)
                whole = copy.deepcopy(log.tape)
                whole.crash((10 ** 6, 10 ** 6))
                self.assertEqual(state(Log(whole, PUBLIC)), state(log))

    def test_every_number_of_characters(self):
        log = Log(Tape(), PUBLIC)
        log.put(ONE)
        log.sync()
        states = [state(log)]
        for deed in [lambda: log.put(TWO), lambda: log.tag("t", [ANN]), lambda: log.out(BOB),
                     lambda: log.tag("t", [])]:
            deed()
            states.append(state(log))
        area = log.tape.areas[0]
        seen = []
        for many in range(len(area.data) - area.safe + 1):
            tape = copy.deepcopy(log.tape)
            tape.crash((many, 0))
            seen.append(states.index(state(Log(tape, PUBLIC))))
        self.assertEqual(seen, sorted(seen))
        self.assertEqual(sorted(set(seen)), [0, 1, 2, 3, 4])

    def test_the_recovered_log_goes_on(self):
        log = Log(Tape(), PUBLIC)
        rows = random_rows(4, 8)
        for row in rows[:5]:
            log.put(row)
        log.sync()
        for row in rows[5:]:
            log.put(row)
        log.tape.crash((10, 0))
        log = Log(log.tape, PUBLIC)
        self.assertEqual(log.patches, set_of(rows[:5]))
        for row in rows[5:]:
            log.put(row)
        log.sync()
        log.tape.crash((0, 0))
        self.assertEqual(Log(log.tape, PUBLIC).patches, set_of(rows))


if __name__ == "__main__":
    unittest.main()
