"""Points 100 to 104: tapes."""

import copy
import random
import unittest

from quiltward.errors import StepError
from quiltward.tapes import Tape, check_number, read_records, record_text

TEXTS = ["", "a", "a:b", "3 0:", "3 0::1;", "\n", "2 1:x:5;", ";", ":", " ", "0", "x" * 300]


def slow_check(text):
    number = 7
    for sign in text:
        number = (number * 257 + ord(sign) + 1) % 4294967291
    return number


def entries(*texts):
    return "".join(record_text(2, text) for text in texts)


START = record_text(1, "0") + record_text(3, "")


class RecordTest(unittest.TestCase):
    def test_check_number(self):
        self.assertEqual(check_number(""), 7)
        self.assertEqual(check_number("a"), 7 * 257 + 97 + 1)
        self.assertEqual(check_number(" ~"), (7 * 257 + 33) * 257 + 127)
        self.assertEqual(check_number("abcde" * 50), slow_check("abcde" * 50))
        self.assertLess(check_number("~" * 1000), 4294967291)

    def test_record_text(self):
        self.assertEqual(record_text(2, "a:b"), f"2 3:a:b:{slow_check('2 3:a:b')};")
        self.assertEqual(record_text(3, ""), f"3 0::{slow_check('3 0:')};")
        self.assertEqual(record_text(1, "10"), f"1 2:10:{slow_check('1 2:10')};")

    def test_records_come_back(self):
        texts = TEXTS + [record_text(2, text) for text in TEXTS]
        for kind in [1, 2, 3]:
            for text in texts:
                data = record_text(kind, text)
                self.assertEqual(read_records(data), ([(kind, text)], len(data)))
        row = [(1 + k % 3, text) for k, text in enumerate(texts)]
        data = "".join(record_text(kind, text) for kind, text in row)
        self.assertEqual(read_records(data), (row, len(data)))
        self.assertEqual(read_records(""), ([], 0))

    def test_long_text(self):
        data = record_text(2, "x\n" * 100000) + record_text(3, "")
        self.assertEqual(read_records(data), ([(2, "x\n" * 100000), (3, "")], len(data)))

    def test_what_stands_behind_is_not_read(self):
        first = record_text(2, "one")
        for rest in ["x", "3 0:", "2", " ", ":", ";", "3 0::8;", record_text(2, "two")[:-1], record_text(2, "two")[1:],
                     "2 " + "9" * 5000 + ":", "2 3:two:" + "9" * 5000 + ";"]:
            self.assertEqual(read_records(first + rest), ([(2, "one")], len(first)), rest)
            self.assertEqual(read_records(rest + first), ([], 0), rest)

    def test_every_cut_is_seen(self):
        parts = [record_text(2, text) for text in ["a", "", "3 0:"]]
        data = "".join(parts)
        for many in range(len(data)):
            whole = sum(1 for k in range(4) if k and len("".join(parts[:k])) <= many)
            rows, size = read_records(data[:many])
            self.assertEqual((len(rows), size), (whole, len("".join(parts[:whole]))))

    def test_every_other_sign_is_seen(self):
        first, second = record_text(2, "a1"), record_text(1, "12:3")
        data = first + second + record_text(3, "")
        for at in range(len(data)):
            want = 0 if at < len(first) else len(first) if at < len(first + second) else len(first + second)
            for sign in "0123456789:; ax\n~":
                for other in [data[:at] + sign + data[at:], data[:at] + sign + data[at + 1:], data[:at] + data[at + 1:]]:
                    if not other.startswith(data[:want] + data[want:at + 1]):
                        self.assertEqual(read_records(other)[1], want, other)

    def test_numbers_have_no_leading_zeros_and_no_signs(self):
        for body in ["02 1:a", "2 01:a", "+2 1:a", "2 +1:a", "2 1_:a", " 2 1:a", "2  1:a", "4 1:a", "0 1:a", "12 1:a",
                     " 1:a", "2 :a", "-1 1:a", "2 -1:a", "2 \u0661:a"]:
            self.assertEqual(read_records(f"{body}:{slow_check(body)};"), ([], 0), body)
        number = slow_check("2 1:a")
        for check in [f"0{number}", f"+{number}", f" {number}", f"{number} ", str(number + 4294967291), "", "-1"]:
            self.assertEqual(read_records(f"2 1:a:{check};"), ([], 0), check)
        self.assertEqual(read_records(f"2 1:a:{number};")[0], [(2, "a")])


class StepsTest(unittest.TestCase):
    def wrong(self, step, deed, *given):
        with self.assertRaises(StepError) as caught:
            deed(*given)
        self.assertEqual(caught.exception.step, step)

    def areas(self, tape):
        return [(area.data, area.safe) for area in tape.areas]

    def test_the_beginning(self):
        tape = Tape()
        self.assertEqual(self.areas(tape), [(START, len(START)), ("", 0)])
        self.assertEqual(tape.used, 0)

    def test_append_and_sync(self):
        tape = Tape()
        tape.append("a")
        self.assertEqual(self.areas(tape), [(START + entries("a"), len(START)), ("", 0)])
        tape.sync()
        tape.append("b")
        self.assertEqual(self.areas(tape), [(START + entries("a", "b"), len(START + entries("a"))), ("", 0)])

    def test_a_compaction(self):
        tape = Tape()
        tape.append("a")
        tape.begin(["x", "y"])
        head = record_text(1, "1") + entries("x", "y")
        self.assertEqual(self.areas(tape), [(START + entries("a"), len(START)), (head, 0)])
        tape.append("b")
        tape.sync()
        one, two = START + entries("a", "b"), head + entries("b")
        self.assertEqual(self.areas(tape), [(one, len(one)), (two, len(two))])
        tape.mark()
        tape.append("c")
        one, marked = one + entries("c"), two + record_text(3, "") + entries("c")
        self.assertEqual(self.areas(tape), [(one, len(one) - len(entries("c"))), (marked, len(two))])
        self.assertEqual(tape.used, 0)
        tape.switch()
        self.assertEqual(self.areas(tape), [("", 0), (marked, len(marked))])
        self.assertEqual(tape.used, 1)
        tape.append("d")
        self.assertEqual(tape.areas[0].data, "")
        self.assertEqual(tape.recover(), ["x", "y", "b", "c", "d"])

    def test_wrong_steps(self):
        tape = Tape()
        self.wrong(0, tape.mark)
        self.wrong(0, tape.switch)
        tape.begin([])
        self.wrong(1, tape.begin, [])
        self.wrong(1, tape.switch)
        tape.append("a")
        tape.mark()
        self.wrong(2, tape.begin, ["x"])
        self.wrong(2, tape.mark)
        tape.sync()
        tape.switch()
        self.wrong(0, tape.mark)
        self.wrong(0, tape.switch)
        tape.begin(["z"])
        tape.crash((0, 0))
        tape.recover()
        self.wrong(0, tape.mark)
        self.wrong(0, tape.switch)
        self.assertEqual(tape.recover(), ["a"])

    def test_heads_count_as_numbers(self):
        tape = Tape()
        for number in range(1, 112):
            tape.append(str(number))
            tape.begin([f"entry {number}"])
            head = record_text(1, str(number))
            self.assertTrue(tape.areas[number % 2].data.startswith(head))
            tape.mark()
            for kept in [(0, 0), (10 ** 6, 0), (0, 10 ** 6), (10 ** 6, 10 ** 6)]:
                other = copy.deepcopy(tape)
                other.crash(kept)
                new = kept[number % 2] > 0
                want = [f"entry {number}"] if new else [f"entry {number - 1}"] * (number > 1)
                if not new and kept[1 - number % 2] > 0:
                    want.append(str(number))
                self.assertEqual(other.recover(), want)
                self.assertEqual(other.used, number % 2 if new else 1 - number % 2)
                self.assertEqual(other.areas[1 - other.used].data, "")
            tape.switch()
            self.assertEqual(tape.used, number % 2)

    def test_a_crash_keeps_what_is_told(self):
        tape = Tape()
        tape.append("abc")
        tape.begin(["x"])
        for many in range(0, 30, 3):
            for other in range(0, 30, 3):
                copied = copy.deepcopy(tape)
                copied.crash((many, other))
                self.assertEqual(copied.areas[0].data, (START + entries("abc"))[:len(START) + many])
                self.assertEqual(copied.areas[1].data, (record_text(1, "1") + entries("x"))[:other])
                copied.recover()
                kept = START + (entries("abc") if many >= len(entries("abc")) else "")
                self.assertEqual(self.areas(copied), [(kept, len(kept)), ("", 0)])

    def test_an_area_without_a_mark_or_a_head_is_not_whole(self):
        for data in [record_text(1, "5") + entries("x"), entries("x") + record_text(3, ""), record_text(3, ""),
                     record_text(3, "") + record_text(1, "5"), "", record_text(1, "5"),
                     record_text(1, "5") + entries("x") + record_text(3, "")[:-1], "x" + record_text(1, "5"),
                     entries("y") + record_text(1, "5") + record_text(3, "")]:
            tape = Tape()
            tape.append("a")
            tape.areas[1].data = data
            self.assertEqual(tape.recover(), ["a"])
            self.assertEqual((tape.used, tape.areas[1].data), (0, ""))


class Model:
    """What point 104 says of a tape."""

    def __init__(self):
        self.rows, self.safe, self.new, self.new_safe, self.begun, self.marked = [], 0, None, 0, 0, False

    def append(self, text):
        self.rows.append(text)
        if self.new is not None:
            self.new.append(text)

    def sync(self):
        self.safe = len(self.rows)
        if self.new is not None:
            self.new_safe = len(self.new)

    def begin(self, texts):
        self.new, self.new_safe, self.marked = list(texts), len(texts), False

    def mark(self):
        self.marked = True

    def switch(self):
        self.rows, self.safe, self.new = self.new, len(self.new), None

    def allowed(self):
        rows = [self.rows[:many] for many in range(self.safe, len(self.rows) + 1)]
        if self.new is not None and self.marked:
            rows += [self.new[:many] for many in range(self.new_safe, len(self.new) + 1)]
        return rows


class CrashTest(unittest.TestCase):
    def crashes(self, tape, model, rng):
        """Every number of characters of one area, with some numbers of the other one."""
        for at in (0, 1):
            spare = len(tape.areas[1 - at].data) - tape.areas[1 - at].safe
            for many in range(len(tape.areas[at].data) - tape.areas[at].safe + 2):
                for other in {0, spare, rng.randint(0, spare)}:
                    copied = copy.deepcopy(tape)
                    copied.crash((many, other) if at == 0 else (other, many))
                    found = copied.recover()
                    self.assertIn(found, model.allowed())
                    copied.append("more")
                    copied.sync()
                    copied.crash((0, 0))
                    self.assertEqual(copied.recover(), found + ["more"])

    def test_any_crash_at_any_time(self):
        for seed in range(12):
            rng = random.Random(seed)
            tape, model, done = Tape(), Model(), 0
            for number in range(25):
                deed = rng.choice(["append", "append", "append", "sync", "step"])
                if deed == "append":
                    text = rng.choice(TEXTS[:8]) + str(number)
                    tape.append(text)
                    model.append(text)
                elif deed == "sync":
                    tape.sync()
                    model.sync()
                elif done == 0:
                    texts = [f"c{number}"] + [text for text in model.rows[-2:]]
                    tape.begin(texts)
                    model.begin(texts)
                else:
                    (tape.mark if done == 1 else tape.switch)()
                    (model.mark if done == 1 else model.switch)()
                done = (done + (deed == "step")) % 3
                self.crashes(tape, model, rng)
                everything = copy.deepcopy(tape)
                everything.crash((10 ** 6, 10 ** 6))
                want = model.new if done == 2 else model.rows
                self.assertEqual(everything.recover(), want)
                if rng.random() < 0.1:
                    tape.crash((rng.randint(0, 60), rng.randint(0, 60)))
                    model, done = Model(), 0
                    model.rows = tape.recover()
                    model.sync()

    def test_recovering_forgets_what_follows_a_broken_record(self):
        tape = Tape()
        for text in ["a", "b", "c"]:
            tape.append(text)
        tape.sync()
        area = tape.areas[0]
        area.data = area.data.replace(entries("b"), entries("b").replace("b", "d"))
        self.assertEqual(tape.recover(), ["a"])
        self.assertEqual((area.data, area.safe), (START + entries("a"), len(START + entries("a"))))

    def test_the_list_of_a_compaction_stays_as_it_is(self):
        tape, texts = Tape(), ["a", "b"]
        tape.begin(texts)
        tape.append("c")
        texts.append("d")
        tape.mark()
        tape.switch()
        found = tape.recover()
        self.assertEqual((found, texts), (["a", "b", "c"], ["a", "b", "d"]))
        found.append("e")
        self.assertEqual(tape.recover(), ["a", "b", "c"])


if __name__ == "__main__":
    unittest.main()
