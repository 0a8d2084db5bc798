"""Points 120 to 124: sites."""

import random
import unittest

from build import ANN, BOB, EVE, FILE, PUBLIC, label, name, patch, random_patch, start
from quiltward.archives import Archive
from quiltward.errors import PatchError
from quiltward.labels import is_below
from quiltward.logs import Log, put_entry
from quiltward.projecting import carry
from quiltward.repos import Repo
from quiltward.sessions import Session
from quiltward.sets import is_set, set_of, union
from quiltward.sites import Site
from quiltward.wires import End
from work import HIGH, LOW, MID, RULES, SIDE, TOP, repo_of, state

ONE = start("x", "y")
TWO = patch(BOB, ("lines", FILE, [(ANN, 1, 0)], [], ["b"]))
THREE = patch(EVE, ("cut", FILE, [(BOB, 0, 0)]))
LONE = start("m", one=name("dan", 1, MID), path=("m",))
HUSH = start("s", one=name("dan", 1, HIGH), path=("s",))


def pair(clearance=HIGH, other=HIGH):
    """Two sites that are peers."""
    return Site(RULES, clearance, {"two": other}), Site(RULES, other, {"one": clearance})


def talk(one, other):
    """Each of two sites sends to the other one, and all of it comes."""
    messages = one.send("two")
    other.receive("one", messages)
    back = other.send("one")
    one.receive("two", back)
    return messages, back


def spaces(site):
    return {at: rows for at, rows in site.repo.spaces.items() if rows}


class SiteTest(unittest.TestCase):
    def test_a_new_site(self):
        site = Site(RULES, HIGH, {"two": LOW})
        self.assertIsInstance(site.repo, Repo)
        self.assertIsInstance(site.archive, Archive)
        self.assertEqual((state(site.repo), site.archive.tapes), ((RULES, {}, []), {}))
        self.assertEqual(site.send("two"), [])

    def test_put(self):
        site = Site(RULES, MID, {"two": MID})
        self.assertIsNone(site.put(ONE))
        site.put(LONE)
        self.assertEqual(spaces(site), {LOW: set_of([ONE]), MID: set_of([LONE])})

    def test_patches_of_another_label(self):
        site = Site(RULES, MID, {"two": TOP})
        for at in [HIGH, SIDE, TOP, label(2, 2), label(1, 1, 2)]:
            with self.assertRaises(PatchError) as caught:
                site.put(patch(name("dan", 1, at), ("add", ("a",))))
            self.assertEqual((caught.exception.place, spaces(site)), ("label", {}))
        with self.assertRaises(PatchError) as caught:
            site.repo.put(HUSH)
        self.assertEqual((caught.exception.place, spaces(site)), ("label", {}))

    def test_patches_that_do_not_fit(self):
        site = Site(RULES, MID, {"two": MID})
        site.put(ONE)
        for bad, place in [(ONE, -1), (patch(EVE, ("back", BOB)), 0), (patch(EVE), -1)]:
            with self.assertRaises(PatchError) as caught:
                site.put(bad)
            self.assertEqual((caught.exception.place, spaces(site)), (place, {LOW: set_of([ONE])}))

    def test_the_rules_are_not_shared(self):
        rules, peers = list(RULES), {"two": LOW}
        site = Site(rules, HIGH, peers)
        rules.append((("q",), HIGH))
        peers["two"] = HIGH
        site.put(HUSH)
        self.assertEqual((site.repo.rules, site.send("two")), (RULES, []))


class SendTest(unittest.TestCase):
    def test_messages_in_order(self):
        site = Site(RULES, HIGH, {"two": HIGH, "low": MID})
        for row in [HUSH, LONE, ONE, TWO]:
            site.put(row)
        self.assertEqual(site.send("two"), [End(at, site.repo.space(at)).message() for at in [LOW, MID, HIGH]])
        self.assertEqual(site.send("low"), [End(at, site.repo.space(at)).message() for at in [LOW, MID]])

    def test_labels_that_one_of_both_does_not_dominate(self):
        for clearance, other, want in [(TOP, LOW, [LOW]), (TOP, SIDE, [LOW, SIDE]), (TOP, TOP, [LOW, MID, SIDE, HIGH]),
                                       (SIDE, HIGH, [LOW]), (HIGH, SIDE, [LOW]), (MID, TOP, [LOW, MID])]:
            site = Site(RULES, clearance, {"two": other})
            for at in [LOW, MID, HIGH, SIDE]:
                if is_below(at, clearance):
                    site.put(patch(name("ann", 1, at), ("add", ("a",))))
            self.assertEqual([message[0] for message in site.send("two")], want)

    def test_saving_comes_first(self):
        site = Site(RULES, HIGH, {"two": LOW})
        site.put(ONE)
        site.put(HUSH)
        self.assertEqual(site.archive.tapes, {})
        site.send("two")
        for at, rows in [(LOW, {ANN: ONE}), (HIGH, {HUSH[1]: HUSH})]:
            area = site.archive.tapes[at].areas[0]
            self.assertEqual(area.safe, len(area.data))
            self.assertEqual(Log(site.archive.tapes[at], at).patches, rows)

    def test_what_the_peer_has_is_not_sent_again(self):
        one, other = pair()
        one.put(ONE)
        one.put(HUSH)
        other.put(LONE)
        messages, back = talk(one, other)
        self.assertEqual([(at, len(rows)) for at, _, rows in messages], [(LOW, 1), (HIGH, 1)])
        self.assertEqual([(at, len(rows)) for at, _, rows in back], [(LOW, 0), (MID, 1), (HIGH, 0)])
        self.assertEqual(spaces(one), spaces(other))
        messages, back = talk(one, other)
        self.assertEqual([rows for _, _, rows in messages + back], [[]] * 6)

    def test_patches_that_a_session_puts_by_itself(self):
        one, other = pair()
        one.put(ONE)
        talk(one, other)
        session = Session(one.repo, "cid", HIGH)
        session.perform(("put", ("a",), ["z"]))
        session.perform(("put", ("s",), ["t"]))
        answer = session.perform(("record", "n"))
        self.assertEqual(answer, ("recorded", [(LOW, name("cid", 1)), (HIGH, name("cid", 1, HIGH))]))
        messages, _ = talk(one, other)
        self.assertEqual([[row[1] for row in rows] for _, _, rows in messages], [[name("cid", 1)], [name("cid", 1, HIGH)]])
        self.assertEqual(spaces(one), spaces(other))
        carry(repo_of(RULES, start("q", one=name("oli", 1))), one.repo)
        messages, _ = talk(one, other)
        self.assertEqual([row[1] for row in messages[0][2]], [name("oli", 1)])

    def test_what_is_sent_depends_on_what_the_peer_dominates(self):
        for seed in range(10):
            rng = random.Random(seed)
            told = []
            for many in [0, 3]:
                site = Site(RULES, TOP, {"two": MID, "top": TOP})
                for row in [ONE, TWO, LONE]:
                    site.put(row)
                for k in range(many):
                    site.put(random_patch(rng, [], name("oli", k + 1, HIGH)))
                    site.put(random_patch(rng, [], name("oli", k + 1, SIDE)))
                    site.send("top")
                told.append(site.send("two"))
            self.assertEqual(told[0], told[1])


class ReceiveTest(unittest.TestCase):
    def message(self, *rows, at=LOW):
        return at, sorted(row[1] for row in rows), list(rows)

    def test_new_patches_come_into_the_space(self):
        site = Site(RULES, HIGH, {"two": HIGH})
        site.put(ONE)
        site.receive("two", [self.message(TWO, THREE), self.message(LONE, at=MID)])
        self.assertEqual(spaces(site), {LOW: set_of([ONE, TWO, THREE]), MID: set_of([LONE])})

    def test_labels_that_one_of_both_does_not_dominate(self):
        site = Site(RULES, MID, {"two": HIGH, "low": LOW})
        site.receive("two", [self.message(HUSH, at=HIGH), self.message(LONE, at=MID)])
        self.assertEqual(spaces(site), {MID: set_of([LONE])})
        site.receive("low", [self.message(patch(name("zed", 1, MID), ("add", ("a",))), at=MID), self.message(ONE)])
        self.assertEqual(spaces(site), {MID: set_of([LONE]), LOW: set_of([ONE])})

    def test_patches_that_wait(self):
        site = Site(RULES, HIGH, {"two": HIGH, "three": HIGH})
        site.receive("two", [self.message(THREE)])
        site.receive("three", [self.message(TWO)])
        self.assertEqual(spaces(site), {})
        self.assertEqual(site.send("two") + site.send("three"), [])
        # What they wait for comes: what becomes ready at one end is what the other one waits for.
        site.put(ONE)
        self.assertEqual(spaces(site), {LOW: set_of([ONE, TWO, THREE])})
        self.assertEqual([len(rows) for _, _, rows in site.send("two") + site.send("three")], [2, 2])

    def test_patches_that_wait_for_a_session(self):
        site = Site(RULES, HIGH, {"two": HIGH})
        site.repo.put(ONE)
        session = Session(site.repo, "cid", LOW)
        new = patch(name("eve", 1), ("back", name("cid", 1)))
        site.receive("two", [self.message(new)])
        self.assertEqual(sorted(spaces(site)[LOW]), [ANN])
        session.perform(("put", ("a",), []))
        self.assertEqual(session.perform(("record", "")), ("recorded", [(LOW, name("cid", 1))]))
        self.assertEqual(sorted(spaces(site)[LOW]), [ANN, name("cid", 1), EVE])
        self.assertEqual(len(site.send("two")[0][2]), 2)

    def test_another_patch_with_an_id_that_is_there(self):
        site = Site(RULES, HIGH, {"two": HIGH})
        site.put(ONE)
        site.receive("two", [self.message(start("other"))])
        self.assertEqual(spaces(site), {LOW: set_of([ONE])})

    def test_what_one_peer_sends_goes_to_the_others(self):
        site = Site(RULES, HIGH, {"two": HIGH, "three": LOW})
        site.send("three")
        site.receive("two", [self.message(ONE), self.message(HUSH, at=HIGH)])
        self.assertEqual(site.send("three"), [self.message(ONE)])
        self.assertEqual(site.send("two"), [(LOW, [ANN], []), (HIGH, [HUSH[1]], [])])


class CrashTest(unittest.TestCase):
    def test_what_was_not_sent_is_lost(self):
        site = Site(RULES, HIGH, {"two": HIGH})
        site.put(ONE)
        site.send("two")
        site.put(TWO)
        site.put(LONE)
        site.crash({LOW: (10 ** 6, 10 ** 6), MID: (10 ** 6, 0)})
        self.assertEqual(state(site.repo), (RULES, {LOW: set_of([ONE])}, []))
        site.put(TWO)
        self.assertEqual(spaces(site), {LOW: set_of([ONE, TWO])})

    def test_a_site_that_has_saved_nothing(self):
        site = Site(RULES, HIGH, {"two": HIGH})
        site.put(ONE)
        site.crash({})
        self.assertEqual(spaces(site), {})
        site.crash({LOW: (1, 1)})
        self.assertEqual(site.send("two"), [])

    def test_each_number_of_characters(self):
        for many in range(len(put_entry(TWO)) + 30):
            site = Site(RULES, HIGH, {"two": HIGH})
            site.put(ONE)
            site.put(LONE)
            site.send("two")
            # A saving whose power fails at some character.
            for at, row in [(LOW, TWO), (MID, patch(name("dan", 2, MID), ("back", LONE[1])))]:
                site.put(row)
                Log(site.archive.tapes[at], at).put(row)
            whole = len(site.archive.tapes[LOW].areas[0].data) - site.archive.tapes[LOW].areas[0].safe
            site.crash({LOW: (many, 0)})
            # Tapes that are left out keep what is safe, and nothing else.
            want = set_of([ONE, TWO] if many >= whole else [ONE])
            self.assertEqual(spaces(site), {LOW: want, MID: set_of([LONE])})

    def test_it_gets_back_what_it_lost(self):
        one, other = pair()
        one.put(ONE)
        talk(one, other)
        for row in [TWO, HUSH]:
            one.put(row)
        other.receive("one", one.send("two"))
        other.put(THREE)
        self.assertEqual(len(spaces(other)[LOW]), 3)
        # What was not saved is lost; what the other site had sent comes again, once this one tells what it has.
        other.crash({})
        self.assertEqual(spaces(other), {LOW: set_of([ONE])})
        messages, back = talk(one, other)
        self.assertEqual([[row[1] for row in rows] for _, _, rows in messages], [[BOB], [HUSH[1]]])
        self.assertEqual([ids for _, ids, _ in back], [[ANN, BOB], [HUSH[1]]])
        self.assertEqual(spaces(other), {LOW: set_of([ONE, TWO]), HIGH: set_of([HUSH])})

    def test_ends_forget(self):
        one, other = pair()
        one.put(ONE)
        talk(one, other)
        self.assertEqual(one.send("two"), [(LOW, [ANN], [])])
        other.crash({})
        # What the one knows of the other one stays true, since nothing is told that may be lost.
        self.assertEqual((spaces(other), one.send("two")), ({LOW: set_of([ONE])}, [(LOW, [ANN], [])]))
        self.assertEqual(other.send("one"), [(LOW, [ANN], [ONE])])
        other.receive("one", [(LOW, [BOB, EVE], [THREE])])
        other.crash({})
        other.put(TWO)
        self.assertEqual(spaces(other), {LOW: set_of([ONE, TWO])})

    def test_received_patches_may_be_lost(self):
        one, other = pair()
        one.put(ONE)
        messages = one.send("two")
        other.receive("one", messages)
        self.assertEqual(spaces(other), {LOW: set_of([ONE])})
        other.crash({})
        self.assertEqual(spaces(other), {})
        other.receive("one", one.send("two"))
        self.assertEqual(spaces(other), {LOW: set_of([ONE])})

    def test_nothing_is_told_that_may_be_lost(self):
        for seed in range(25):
            rng = random.Random(seed)
            one = Site(RULES, HIGH, {"two": HIGH, "three": MID})
            told, session = set(), Session(one.repo, "cid", HIGH)
            for _ in range(25):
                word = rng.choice(["record", "record", "send", "crash", "receive"])
                if word == "record":
                    session.perform(("put", rng.choice([("a",), ("s",), ("m",)]), [rng.choice("xyz")]))
                    for _, new in session.perform(("record", ""))[1]:
                        self.assertNotIn(new, told)
                elif word == "send":
                    for _, ids, rows in one.send(rng.choice(["two", "three"])):
                        told |= set(ids)
                        self.assertLessEqual({row[1] for row in rows}, set(ids))
                elif word == "receive":
                    one.receive("two", [(LOW, [], [random_patch(rng, [], name("oli", rng.randint(1, 9)))])])
                else:
                    one.crash({at: (rng.randint(0, 99), 0) for at in [LOW, MID, HIGH] if rng.random() < 0.5})
                    self.assertLessEqual(told, {row for rows in one.repo.spaces.values() for row in rows})
                    session = Session(one.repo, "cid", HIGH)


class Network:
    """Sites that are connected by peers; messages may be lost, doubled and late, and sites may crash."""

    def __init__(self, rng, links, clearances):
        self.rng = rng
        self.names = [f"s{k}" for k in range(len(clearances))]
        self.links = [(self.names[i], self.names[j]) for i, j in links]
        self.sites, self.under_way, self.sessions = {}, [], {}
        for word, clearance in zip(self.names, clearances):
            peers = {}
            for one, other in self.links + [(j, i) for i, j in self.links]:
                if one == word:
                    peers[other] = clearances[self.names.index(other)]
            self.sites[word] = Site(RULES, clearance, peers)

    def work(self, many):
        """Let the sites do something."""
        for _ in range(many):
            word = self.rng.choice(self.names)
            site = self.sites[word]
            deed = self.rng.choice(["put", "put", "put", "send", "send", "send", "come", "come", "crash"])
            if deed == "put":
                labels = [at for at in [LOW, MID, HIGH, SIDE] if is_below(at, site.clearance)]
                at, hand = self.rng.choice(labels), "abcdefgh"[self.names.index(word)] * 3
                site.put(random_patch(self.rng, list(site.repo.space(at).values()), site.repo.next_id(at, hand)))
            elif deed == "send" and site.peers:
                peer = self.rng.choice(sorted(site.peers))
                self.under_way.append((word, peer, site.send(peer)))
            elif deed == "come" and self.under_way:
                at = self.rng.randrange(len(self.under_way))
                one, other, messages = self.under_way[at]
                self.sites[other].receive(one, self.rng.sample(messages, self.rng.randint(0, len(messages))))
                if self.rng.random() < 0.5:
                    del self.under_way[at]
            elif deed == "crash" and self.rng.random() < 0.5:
                site.crash({at: (self.rng.randint(0, 60), 0) for at in [LOW, MID, HIGH, SIDE] if self.rng.random() < 0.5})

    def round(self):
        """Let each site send to each of its peers, and all of it come."""
        for word in self.rng.sample(self.names, len(self.names)):
            for peer in sorted(self.sites[word].peers):
                self.sites[peer].receive(word, self.sites[word].send(peer))

    def groups(self, at):
        """The lists of the sites that are connected by sites that dominate a label."""
        left = [word for word in self.names if is_below(at, self.sites[word].clearance)]
        rows = []
        while left:
            group = [left[0]]
            for word in group:
                for one, other in self.links + [(j, i) for i, j in self.links]:
                    if one == word and other in left and other not in group:
                        group.append(other)
            rows.append(group)
            left = [word for word in left if word not in group]
        return rows


class NetworkTest(unittest.TestCase):
    def check(self, seed, links, clearances):
        rng = random.Random(seed)
        net = Network(rng, links, clearances)
        net.work(60)
        want = {}
        for at in [LOW, MID, HIGH, SIDE]:
            for group in net.groups(at):
                whole = {}
                for word in group:
                    whole = union(whole, net.sites[word].repo.space(at))
                want.update({(word, at): whole for word in group})
        for _ in net.names:
            net.round()
        for (word, at), whole in want.items():
            self.assertTrue(is_set(whole))
            self.assertEqual(net.sites[word].repo.space(at), whole)
        for word in net.names:
            self.assertTrue(all(is_below(at, net.sites[word].clearance) for at in net.sites[word].repo.labels()))
            self.assertTrue(all(is_below(at, net.sites[word].clearance) for at in net.sites[word].archive.tapes))
        # What is under way still brings nothing new, and nothing is sent any more.
        for one, other, messages in net.under_way:
            net.sites[other].receive(one, messages)
        net.round()
        for word in net.names:
            for peer in net.sites[word].peers:
                self.assertEqual([rows for _, _, rows in net.sites[word].send(peer) if rows], [])
        return sum(len(whole) for whole in want.values())

    def test_two_sites(self):
        self.assertGreater(sum(self.check(seed, [(0, 1)], [HIGH, HIGH]) for seed in range(15)), 100)

    def test_a_row_of_sites(self):
        many = sum(self.check(seed, [(0, 1), (1, 2), (2, 3)], [HIGH, TOP, HIGH, MID]) for seed in range(15))
        self.assertGreater(many, 100)

    def test_sites_that_do_not_dominate_all_labels(self):
        for seed in range(15):
            self.check(seed, [(0, 1), (1, 2), (2, 3), (3, 4)], [TOP, MID, HIGH, LOW, TOP])

    def test_a_circle_of_sites(self):
        for seed in range(10):
            self.check(seed, [(0, 1), (1, 2), (2, 0)], [TOP, SIDE, TOP])

    def test_sites_that_are_not_connected(self):
        for seed in range(10):
            self.check(seed, [(0, 1), (2, 3)], [HIGH, HIGH, HIGH, HIGH])

    def test_one_round_is_not_enough(self):
        sites = [Site(RULES, LOW, {"b": LOW}), Site(RULES, LOW, {"a": LOW, "c": LOW}), Site(RULES, LOW, {"b": LOW})]
        sites[2].put(ONE)
        for _ in range(2):
            self.assertEqual(sites[0].repo.space(PUBLIC), {})
            for k, word, others in [(0, "a", [(1, "b")]), (1, "b", [(0, "a"), (2, "c")]), (2, "c", [(1, "b")])]:
                for j, other in others:
                    sites[j].receive(word, sites[k].send(other))
        self.assertEqual(sites[0].repo.space(PUBLIC), set_of([ONE]))


if __name__ == "__main__":
    unittest.main()
