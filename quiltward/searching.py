"""Searching for the cause of a fault between a good part of a set and the whole set, which is bad."""

from itertools import combinations

from quiltward.patches import needs
from quiltward.sets import all_needs


def new_ids(good, bad):
    """Return the list of the ids that the bad set has and the good part has not, ascending."""
    return [name for name in sorted(bad) if name not in good]


def parts_between(good, bad):
    """Return the list of all parts between, those with fewer ids first."""
    ids, rows = new_ids(good, bad), []
    needed = {name: [other for other in needs(bad[name]) if other not in good] for name in ids}
    for size in range(len(ids) + 1):
        for chosen in combinations(ids, size):
            if all(other in chosen for name in chosen for other in needed[name]):
                rows.append(list(chosen))
    return rows


def picks_between(good, bad):
    """Return the list of the picks between, ascending by their new ids."""
    rows = []
    for name in new_ids(good, bad):
        rows.append(sorted([name] + [other for other in all_needs(bad, name) if other not in good]))
    return rows


def causes_between(good, bad, most):
    """Return the list of the causes with at most so many ids, 1 or 2."""
    ids = new_ids(good, bad)
    rows = [[name] for name in ids]
    if most > 1:
        needed = {name: all_needs(bad, name) for name in ids}
        for one, other in combinations(ids, 2):
            if other not in needed[one] and one not in needed[other]:
                rows.append([one, other])
    return rows


def is_bad(part, cause):
    """Return whether a part between is bad for a cause."""
    return all(name in part for name in cause)


class Finder:
    """What some tests tell of some causes; sums of bits stand for lists of causes, each of which has a bit."""

    def __init__(self, causes, tests):
        self.causes = [list(cause) for cause in causes]
        self.all_bits = (1 << len(causes)) - 1
        self.bad_bits = [self.bits_of([is_bad(part, cause) for cause in causes]) for part in tests]
        # Tests that tell the same are looked at once where their places do not matter.
        self.kinds = sorted(set(self.bad_bits))
        self.least = {}

    def bits_of(self, words):
        """Return the sum of the bits of the causes of which a list of words tells True."""
        return sum([1 << k for k, word in enumerate(words) if word])

    def named(self, bits):
        """Return the list of the causes of a sum of bits."""
        return [list(cause) for k, cause in enumerate(self.causes) if bits >> k & 1]

    def sides(self, bits):
        """Return the pairs of sums of bits into which tests part some causes."""
        rows = {}
        for kind in self.kinds:
            bad = bits & kind
            if bad != 0 and bad != bits:
                rows[(bad, bits - bad)] = True
        return list(rows)

    def fewest(self, bits):
        """Return how many tests the best plan for some causes makes in the worst case."""
        if bits not in self.least:
            numbers = []
            for bad, good in self.sides(bits):
                numbers.append(1 + max(self.fewest(bad), self.fewest(good)))
            self.least[bits] = min(numbers, default=0)
        return self.least[bits]

    def first_test(self, bits):
        """Return the index of the first test that can stand in a best plan for some causes, or None."""
        for index, kind in enumerate(self.bad_bits):
            bad = bits & kind
            if bad != 0 and bad != bits:
                if 1 + max(self.fewest(bad), self.fewest(bits - bad)) == self.fewest(bits):
                    return index
        return None

    def best(self, bits):
        """Return the best plan for some causes."""
        index = self.first_test(bits)
        if index is None:
            return "found", self.named(bits)
        bad = bits & self.bad_bits[index]
        return "test", index, self.best(bad), self.best(bits - bad)


def plan(causes, tests):
    """Return the best plan for a list of causes and a list of tests."""
    finder = Finder(causes, tests)
    return finder.best(finder.all_bits)


def depth(tree):
    """Return how many tests a plan makes in the worst case."""
    most, stack = 0, [(tree, 0)]
    while stack:
        part, many = stack.pop()
        most = max(most, many)
        if part[0] == "test":
            stack.extend([(part[2], many + 1), (part[3], many + 1)])
    return most


def plan_right(causes, tests, tree):
    """Return whether a plan is right."""
    finder = Finder(causes, tests)
    stack = [(tree, finder.all_bits)]
    while stack:
        part, bits = stack.pop()
        if part[0] == "found":
            if part[1] != finder.named(bits) or finder.sides(bits):
                return False
        elif 0 <= part[1] < len(tests):
            bad = bits & finder.bad_bits[part[1]]
            stack.extend([(part[2], bad), (part[3], bits - bad)])
        else:
            return False
    return True


def shield(causes, tests):
    """Return a right shield, whose first row has all causes and the number of tests of the best plan."""
    finder = Finder(causes, tests)
    rows, left = [], [finder.all_bits]
    seen = {finder.all_bits: True}
    while left:
        bits = left.pop()
        number = finder.fewest(bits)
        if number > 0:
            rows.append((finder.named(bits), number))
        # Rows with the number 1 need no others.
        sides = finder.sides(bits) if number > 1 else []
        for bad, good in sides:
            harder = bad if finder.fewest(bad) >= finder.fewest(good) else good
            if harder not in seen:
                seen[harder] = True
                left.append(harder)
    return rows


class Rows:
    """The rows of a shield, with sums of bits in the place of lists of causes."""

    def __init__(self, finder, rows):
        self.pairs = [(finder.bits_of([cause in row for cause in finder.causes]), number) for row, number in rows]
        self.largest = {}

    def greatest(self, bits):
        """Return the greatest number of the rows all causes of which are among some, or 0."""
        if bits not in self.largest:
            self.largest[bits] = max([number for row, number in self.pairs if row & bits == row], default=0)
        return self.largest[bits]

    def row_right(self, finder, bits, number):
        """Return whether a row is right."""
        sides = finder.sides(bits)
        if number < 1 or not sides:
            return False
        return number == 1 or all(max(self.greatest(bad), self.greatest(good)) >= number - 1 for bad, good in sides)


def shield_right(causes, tests, rows):
    """Return whether a shield is right."""
    finder = Finder(causes, tests)
    if not all(cause in finder.causes for row, _ in rows for cause in row):
        return False
    table = Rows(finder, rows)
    return all(table.row_right(finder, bits, number) for bits, number in table.pairs)


class Search:
    """A search, which goes along the best plan."""

    def __init__(self, causes, tests):
        self.tests = [list(part) for part in tests]
        self.rest = plan(causes, tests)
        self.made = 0

    def next_part(self):
        """Return the part to be tested next, or None."""
        return list(self.tests[self.rest[1]]) if self.rest[0] == "test" else None

    def answer(self, bad):
        """Take the answer for the part to be tested."""
        self.rest = self.rest[2] if bad else self.rest[3]
        self.made += 1

    def found(self):
        """Return the list of the causes that are found, or None as long as there is a test to be made."""
        return [list(cause) for cause in self.rest[1]] if self.rest[0] == "found" else None
