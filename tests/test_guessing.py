"""Points 164, 165 and 166: yards."""

import random
import unittest

from build import ANN, BOB, EVE, FILE, name, patch, slow_needs, start
from queues import ALWAYS, NEVER, plain, random_case, slow_train, without_paths
from quiltward.checks import is_right
from quiltward.errors import StepError
from quiltward.guessing import Yard
from quiltward.sets import set_of


class Model:
    """A yard, as points 164 and 165 say it, thought anew at each question."""

    def __init__(self, patches, main, queue, window, doubted):
        self.given = patches, sorted(main), queue, window, doubted
        self.guesses, self.answers, self.refuted = {}, {}, 0

    def settled(self):
        """The verdicts, the main line, and how many answers decided a place."""
        patches, main, queue, _, _ = self.given
        report, line, many = [], [main], 0
        for one in queue:
            lacked = [other for other in slow_needs(patches[one]) if other not in line[-1]]
            version = sorted(line[-1] + [one])
            if lacked:
                report.append((one, ("needs", lacked)))
                continue
            if tuple(version) not in self.answers:
                break
            many += 1
            right = self.answers[tuple(version)]
            report.append((one, ("in",) if right else ("fails",)))
            line += [version] if right else []
        return report, line, many

    def wanted(self):
        patches, _, queue, window, doubted = self.given
        report, line, _ = self.settled()
        version, rows = line[-1], []
        for one in queue[len(report):][:window]:
            if set(slow_needs(patches[one])) - set(version):
                continue
            longer = sorted(version + [one])
            right = self.answers.get(tuple(longer))
            if right is None:
                right = one not in doubted
                rows.append(longer)
                self.guesses[tuple(longer)] = right
            version = longer if right else version
        return rows

    def answer(self, version, right):
        key = tuple(version)
        if key not in self.answers:
            self.answers[key] = right
            self.refuted += right != self.guesses[key]


ROWS = [start("x"), patch(BOB, ("lines", FILE, [(ANN, 1, 0)], [], ["b"])), patch(EVE, ("cut", FILE, [(BOB, 0, 0)]))]
PATCHES = set_of(ROWS)


class WantedTest(unittest.TestCase):
    def test_windows(self):
        patches, ids = plain(4)
        for window in range(1, 8):
            yard = Yard(patches, [], ids, window, [])
            self.assertEqual(yard.wanted(), [ids[:k] for k in range(1, min(window, 4) + 1)])

    def test_a_main_version(self):
        patches, ids = plain(4)
        yard = Yard(patches, [ids[3], ids[1]], [ids[2], ids[0]], 2, [])
        self.assertEqual(yard.wanted(), [ids[1:], ids])
        self.assertEqual((yard.report(), yard.main_line()), ([], [[ids[1], ids[3]]]))

    def test_doubted_ids(self):
        patches, ids = plain(4)
        self.assertEqual(Yard(patches, [], ids, 4, ids[:1]).wanted(), [ids[:1], ids[1:2], ids[1:3], ids[1:4]])
        self.assertEqual(Yard(patches, [], ids, 4, ids).wanted(), [[one] for one in ids])
        self.assertEqual(Yard(patches, [], ids, 4, [ids[1], name("zed", 1)]).wanted(),
                         [ids[:1], ids[:2], [ids[0], ids[2]], [ids[0], ids[2], ids[3]]])

    def test_an_id_that_needs_what_the_way_lacks_is_passed(self):
        self.assertEqual(Yard(PATCHES, [], [ANN, BOB, EVE], 3, []).wanted(), [[ANN], [ANN, BOB], [ANN, BOB, EVE]])
        self.assertEqual(Yard(PATCHES, [], [ANN, BOB, EVE], 3, [BOB]).wanted(), [[ANN], [ANN, BOB]])
        self.assertEqual(Yard(PATCHES, [], [ANN, BOB, EVE], 3, [ANN]).wanted(), [[ANN]])
        # An id that is passed takes its place in the window.
        patches, ids = plain(2)
        patches.update(PATCHES)
        ids = [name("bob", 2), ANN]
        self.assertEqual(Yard(patches, [], [ANN, EVE, ids[0]], 2, []).wanted(), [[ANN]])
        self.assertEqual(Yard(patches, [], [ANN, EVE, ids[0]], 3, []).wanted(), [[ANN], [ANN, ids[0]]])

    def test_an_empty_queue(self):
        yard = Yard(PATCHES, [ANN], [], 20, [])
        self.assertEqual((yard.wanted(), yard.report(), yard.main_line(), yard.counts()), ([], [], [[ANN]], (0, 0, 0)))

    def test_needs_are_known_without_an_answer(self):
        yard = Yard(PATCHES, [], [BOB, EVE], 2, [])
        self.assertEqual(yard.report(), [(BOB, ("needs", [ANN])), (EVE, ("needs", [ANN, BOB]))])
        self.assertEqual((yard.wanted(), yard.counts()), ([], (0, 0, 0)))
        yard = Yard(PATCHES, [], [BOB, ANN, EVE], 1, [])
        self.assertEqual((yard.report(), yard.wanted()), ([(BOB, ("needs", [ANN]))], [[ANN]]))
        yard.answer([ANN], True)
        self.assertEqual(yard.report(), [(BOB, ("needs", [ANN])), (ANN, ("in",)), (EVE, ("needs", [BOB]))])

    def test_asking_again(self):
        patches, ids = plain(3)
        yard = Yard(patches, [], ids, 3, [])
        yard.wanted()[0].append("more")
        yard.main_line()[0].append("more")
        yard.report().append("more")
        self.assertEqual((yard.wanted(), yard.main_line(), yard.report()), ([ids[:1], ids[:2], ids], [[]], []))
        other = Yard(PATCHES, [], [BOB], 1, [])
        other.report()[0][1][1].append("more")
        self.assertEqual(other.report(), [(BOB, ("needs", [ANN]))])


class AnswerTest(unittest.TestCase):
    def test_answers_that_come_from_behind(self):
        patches, ids = plain(3)
        yard = Yard(patches, [], ids, 3, [])
        yard.wanted()
        for many, version in enumerate([ids, ids[:2]], 1):
            self.assertIsNone(yard.answer(version, True))
            self.assertEqual((yard.report(), yard.main_line(), yard.counts()), ([], [[]], (many, 0, 0)))
        self.assertEqual(yard.wanted(), [ids[:1]])
        yard.answer(ids[:1], True)
        self.assertEqual(yard.report(), [(one, ("in",)) for one in ids])
        self.assertEqual(yard.main_line(), [ids[:k] for k in range(4)])
        self.assertEqual((yard.wanted(), yard.counts()), ([], (3, 3, 0)))

    def test_an_answer_that_is_not_as_guessed(self):
        patches, ids = plain(3)
        yard = Yard(patches, [], ids, 3, [ids[2]])
        yard.wanted()
        yard.answer(ids[:2], False)
        self.assertEqual((yard.wanted(), yard.counts()), ([ids[:1], [ids[0], ids[2]]], (1, 0, 1)))
        yard.answer([ids[0], ids[2]], True)
        self.assertEqual((yard.wanted(), yard.counts()), ([ids[:1]], (2, 0, 2)))
        yard.answer(ids[:1], True)
        self.assertEqual(yard.report(), [(ids[0], ("in",)), (ids[1], ("fails",)), (ids[2], ("in",))])
        self.assertEqual(yard.counts(), (3, 3, 2))

    def test_an_answer_long_after_it_was_wanted(self):
        patches, ids = plain(3)
        yard = Yard(patches, [], ids, 3, [])
        yard.wanted()
        yard.answer(ids[:1], False)
        self.assertEqual(yard.wanted(), [ids[1:2], ids[1:]])
        yard.answer(ids[:2], True)
        yard.answer(ids, False)
        self.assertEqual((yard.report(), yard.counts()), ([(ids[0], ("fails",))], (3, 1, 2)))
        self.assertEqual(yard.wanted(), [ids[1:2], ids[1:]])
        yard.answer(ids[1:2], True)
        yard.answer(ids[1:], True)
        self.assertEqual((yard.main_line(), yard.counts()), ([[], ids[1:2], ids[1:]], (5, 3, 2)))

    def test_a_second_answer_is_ignored(self):
        patches, ids = plain(2)
        yard = Yard(patches, [], ids, 2, [])
        yard.wanted()
        for right in [True, False, True]:
            yard.answer(ids, right)
            self.assertEqual(yard.counts(), (1, 0, 0))
        yard.answer(ids[:1], True)
        yard.answer(ids[:1], False)
        yard.answer(ids, False)
        self.assertEqual((yard.report(), yard.counts()), ([(one, ("in",)) for one in ids], (2, 2, 0)))

    def test_a_version_that_was_never_wanted(self):
        patches, ids = plain(3)
        yard = Yard(patches, [], ids, 2, [])
        for version in [ids[:1], [], ids]:
            self.refused(yard, version)
        yard.wanted()
        for version in [[], ids, ids[1:2], ids[:2][::-1], [ids[0], ids[0]]]:
            self.refused(yard, version)
        yard.answer(ids[:1], True)
        # It would be wanted now, but nobody has asked.
        self.refused(yard, ids)
        yard.wanted()
        yard.answer(ids, False)
        self.assertEqual(yard.counts(), (2, 1, 1))

    def refused(self, yard, version):
        before = yard.report(), yard.main_line(), yard.counts()
        for right in [True, False]:
            with self.assertRaises(StepError) as caught:
                yard.answer(version, right)
            self.assertEqual(caught.exception.step, version)
        self.assertEqual((yard.report(), yard.main_line(), yard.counts()), before)

    def test_what_was_passed_may_change_later(self):
        patches, ids = plain(3)
        main, queue, doubted = ids[:1], ids[1:], ids[2:]
        yard = Yard(patches, main, queue, 2, doubted)
        for row in [main, queue, doubted]:
            row.clear()
        version = yard.wanted()[0]
        yard.answer(version, True)
        version.clear()
        self.assertEqual((yard.wanted(), yard.main_line()), ([ids], [ids[:1], ids[:2]]))


class RandomTest(unittest.TestCase):
    def test_yards_do_as_the_model(self):
        for seed in range(150):
            rng = random.Random(seed)
            patches, main, queue, check = random_case(seed)
            doubted = rng.sample(queue, rng.randint(0, len(queue)))
            given = patches, main, queue, rng.choice([1, 2, 3, 5, 20]), doubted
            yard, model, asked = Yard(*given), Model(*given), []
            for _ in range(40):
                if rng.random() < 0.6:
                    told = yard.wanted()
                    self.assertEqual(told, model.wanted())
                    asked.extend(version for version in told if version not in asked)
                elif asked:
                    version = rng.choice(asked)
                    right = is_right(patches, version, check) if seed % 2 else rng.random() < 0.7
                    yard.answer(version, right)
                    model.answer(version, right)
                report, line, many = model.settled()
                self.assertEqual((yard.report(), yard.main_line()), (report, line))
                self.assertEqual(yard.counts(), (len(model.answers), many, model.refuted))

    def run_yard(self, rng, patches, main, queue, check, window, doubted):
        """A yard with right answers, in any order; returns it and the list of the versions that were wanted."""
        yard = Yard(patches, main, queue, window, doubted)
        want, line = slow_train(patches, main, queue, check)
        asked, left = [], []
        while len(yard.report()) < len(queue):
            told = yard.wanted()
            self.assertTrue(told)
            left += [version for version in told if version not in asked]
            asked += [version for version in told if version not in asked]
            many = len(yard.report())
            if rng.random() < 0.2:
                yard.answer(told[0], is_right(patches, told[0], check))
                self.assertGreater(len(yard.report()), many)
                left = [version for version in left if version != told[0]]
            elif left:
                version = left.pop(rng.randrange(len(left)))
                yard.answer(version, is_right(patches, version, check))
            self.assertEqual(yard.report(), want[:len(yard.report())])
            self.assertEqual(yard.main_line(), line[:len(yard.main_line())])
        self.assertEqual((yard.report(), yard.main_line(), yard.wanted()), (want, line, []))
        return yard, asked

    def test_with_right_answers_the_end_is_that_of_the_train(self):
        for seed in range(150):
            rng = random.Random(seed)
            patches, main, queue, check = random_case(seed)
            window, doubted = rng.choice([1, 2, 3, 4, 20]), rng.sample(queue, rng.randint(0, len(queue)) // 2)
            yard, asked = self.run_yard(rng, patches, main, queue, check, window, doubted)
            self.assertLessEqual(len(asked), len(queue) + (window - 1) * yard.counts()[2])

    def test_how_many_versions_are_wanted(self):
        patches, ids = plain(12)
        for seed in range(30):
            rng = random.Random(seed)
            bad = rng.sample(ids, rng.choice([0, 1, 2, 6, 12]))
            doubted = bad if seed % 3 == 0 else rng.sample(ids, rng.randint(0, 4))
            window = rng.choice([1, 2, 4, 12, 20])
            yard, asked = self.run_yard(rng, patches, [], ids, without_paths(ids, bad), window, doubted)
            refuted = yard.counts()[2]
            self.assertLessEqual(len(asked), 12 + (window - 1) * refuted)
            if sorted(doubted) == sorted(bad):
                self.assertEqual(refuted, 0)
            if refuted == 0 and window >= 12:
                self.assertEqual(Yard(patches, [], ids, window, doubted).wanted(), asked)

    def test_checks_that_hold_always_or_never(self):
        patches, ids = plain(5)
        for check, right in [(ALWAYS, True), (NEVER, False)]:
            yard, asked = self.run_yard(random.Random(1), patches, [], ids, check, 5, [])
            self.assertEqual(yard.report(), [(one, ("in",) if right else ("fails",)) for one in ids])


if __name__ == "__main__":
    unittest.main()
