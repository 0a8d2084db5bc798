"""Demands, which tell whose agreement a patch has to have, and the hands that can meet what they lack."""


def counting(demand, author):
    """Return the list of the hands that count in a demand of the kind "some", for a patch of an author, ascending."""
    return [hand for hand in demand[2] if demand[3] or hand != author]


class Lacks:
    """Several demands, each of which lacks some hands of its own list."""

    def __init__(self, rows):
        self.start = tuple([many for many, _ in rows])
        self.helpers = [{hand: True for hand in hands} for _, hands in rows]
        self.hands = sorted({hand for _, hands in rows for hand in hands})
        self.failed = {}

    def shortest(self):
        """Return the shortest list of hands that meets all demands, and of several ones the first one, or None."""
        for many in range(len(self.hands) + 1):
            chosen = self.first(0, many, self.start)
            if chosen is not None:
                return chosen
        return None

    def is_hopeless(self, at, many, lacks):
        """Return whether so many of the hands from an index on are too few for what is lacking."""
        if max(lacks) > many:
            return True
        for lack, helper in zip(lacks, self.helpers):
            if lack > 0 and lack > len([hand for hand in self.hands[at:] if hand in helper]):
                return True
        return False

    def first(self, at, many, lacks):
        """Return the first list of at most so many hands from an index on that meets what is lacking, or None."""
        if max(lacks, default=0) <= 0:
            return []
        key = (at, many, lacks)
        if key in self.failed or self.is_hopeless(at, many, lacks):
            return None
        hand = self.hands[at]
        rest = tuple([lack - 1 if hand in helper else lack for lack, helper in zip(lacks, self.helpers)])
        chosen = self.first(at + 1, many - 1, rest)
        if chosen is not None:
            return [hand] + chosen
        chosen = self.first(at + 1, many, lacks)
        if chosen is None:
            self.failed[key] = True
        return chosen
