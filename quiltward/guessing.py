"""Yards, which make a train while versions are tested elsewhere, with answers in any order."""

from quiltward.errors import StepError
from quiltward.trains import grown, lacking


class Yard:
    """A yard: a train whose answers come from elsewhere."""

    def __init__(self, patches, main, queue, window, doubted):
        self.patches = patches
        self.queue = list(queue)
        self.window = window
        self.doubted = {name: True for name in doubted}
        self.verdicts = []
        self.versions = [sorted(main)]
        self.guesses = {}
        self.answers = {}
        self.decisive = 0
        self.refuted = 0
        # What the first ids need may tell their verdicts before there is any answer.
        self.decide()

    def decide(self):
        """Decide the first places of the queue as long as their verdicts are known."""
        start = len(self.verdicts)
        for name in self.queue[start:]:
            verdict = self.verdict_on(name)
            if verdict is None:
                return
            self.verdicts.append((name, verdict))

    def verdict_on(self, name):
        """Return the verdict on the first id that is not decided, or None; the main line gets it if it is in."""
        lacked = lacking(self.patches[name], self.versions[-1])
        if lacked:
            return "needs", lacked
        version = grown(self.versions[-1], [name])
        right = self.answers.get(tuple(version))
        if right is None:
            return None
        self.decisive += 1
        if right:
            self.versions.append(version)
        return ("in",) if right else ("fails",)

    def unanswered(self):
        """Return the list of the pairs of a version of the way without an answer, and of what is guessed for it."""
        version, rows = self.versions[-1], []
        start = len(self.verdicts)
        for name in self.queue[start:start + self.window]:
            if lacking(self.patches[name], version):
                continue
            longer = grown(version, [name])
            right = self.answers.get(tuple(longer))
            if right is None:
                right = name not in self.doubted
                rows.append((longer, right))
            if right:
                version = longer
        return rows

    def wanted(self):
        """Return the list of the wanted versions, by their places."""
        rows = self.unanswered()
        for version, guess in rows:
            self.guesses[tuple(version)] = guess
        return [list(version) for version, _ in rows]

    def answer(self, version, right):
        """Take the answer for a version that was wanted; a second answer is ignored."""
        key = tuple(version)
        if key not in self.guesses:
            raise StepError(list(version))
        if key in self.answers:
            return
        self.answers[key] = right
        if right != self.guesses[key]:
            self.refuted += 1
        self.decide()

    def report(self):
        """Return the list of the pairs of an id and its verdict, so far."""
        rows = []
        for name, verdict in self.verdicts:
            rows.append((name, ("needs", list(verdict[1])) if verdict[0] == "needs" else verdict))
        return rows

    def main_line(self):
        """Return the main line so far."""
        return [list(version) for version in self.versions]

    def counts(self):
        """Return how many versions have an answer, how many of these decided a place, and how many were refuted."""
        return len(self.answers), self.decisive, self.refuted
