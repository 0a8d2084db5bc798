"""Wires, over which two ends exchange the patches of one label."""

from heapq import heappop, heappush

from quiltward.errors import PatchError
from quiltward.patches import check_fits, needs
from quiltward.sets import order_of


def fits(patches, patch):
    """Return whether a patch fits a set."""
    try:
        check_fits(patches, patch)
    except PatchError:
        return False
    return True


class Queue:
    """Waiting patches, whose turn comes when a set has all that they need."""

    def __init__(self, rows, patches):
        self.lacking = {}
        self.takers = {}
        for name in rows:
            lacked = [other for other in needs(rows[name]) if other not in patches]
            self.lacking[name] = len(lacked)
            for other in lacked:
                self.takers.setdefault(other, []).append(name)
        # An ascending list is a heap already.
        self.ready = sorted([name for name in self.lacking if self.lacking[name] == 0])

    def next_id(self):
        """Return the least id that is ready, which leaves the queue."""
        return heappop(self.ready)

    def has_come(self, name):
        """Let those that need an id, which the set has now, have one thing less to wait for."""
        for other in self.takers.get(name, []):
            self.lacking[other] -= 1
            if self.lacking[other] == 0:
                heappush(self.ready, other)


class End:
    """An end of a wire, with a set of a label."""

    def __init__(self, label, patches):
        self.label = label
        self.patches = {name: patches[name] for name in patches}
        self.heard = {}
        self.held = {}

    def message(self):
        """Return the message for the other end."""
        rows = [self.patches[name] for name in order_of(self.patches) if name not in self.heard]
        return self.label, sorted(self.patches), rows

    def receive(self, message):
        """Receive a message of the other end."""
        label, ids, rows = message
        if label != self.label:
            return
        for name in ids:
            self.heard[name] = True
        for row in rows:
            if row[1] not in self.patches and row[1] not in self.held:
                self.held[row[1]] = row
        self.grow({})

    def known(self):
        """Return the list of the ids that the other end is known to have, ascending."""
        return sorted(self.heard)

    def waiting(self):
        """Return the list of the ids of the waiting patches, ascending."""
        return sorted(self.held)

    def add(self, patch):
        """Put a patch into the set, and then the waiting patches whose turn has come."""
        # An empty set does not tell its label, but the end does.
        if patch[1][0] != self.label:
            raise PatchError(-1)
        check_fits(self.patches, patch)
        self.grow({patch[1]: patch})

    def grow(self, more):
        """Put patches that make the set a set into it, and then the waiting patches whose turn has come."""
        # Sets are not modified once they were seen, so the end gets a new one.
        patches = {name: self.patches[name] for name in self.patches}
        for name in more:
            patches[name] = more[name]
        held = {name: self.held[name] for name in self.held if name not in patches}
        queue = Queue(held, patches)
        while queue.ready:
            name = queue.next_id()
            row = held.pop(name)
            if name[0] == self.label and fits(patches, row):
                patches[name] = row
                queue.has_come(name)
        self.patches = patches
        self.held = held
