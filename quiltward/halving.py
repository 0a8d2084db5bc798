"""Halves: bringing a queue into a main line in batches, with fewer tests."""

from quiltward.checks import is_right
from quiltward.trains import grown, lacking


class Halver:
    """What was found out while a queue is brought in: the verdicts, the main line and the tests."""

    def __init__(self, patches, main, check):
        self.patches = patches
        self.check = check
        self.verdicts = {}
        self.versions = [sorted(main)]
        self.tests = []

    def leave_out(self, ids):
        """Give the ids of a list that need what is not there their verdicts; return the list of the others."""
        version, left = self.versions[-1], []
        for name in ids:
            lacked = lacking(self.patches[name], version + left)
            if lacked:
                self.verdicts[name] = ("needs", lacked)
            else:
                left.append(name)
        return left

    def comes_in(self, ids):
        """Test the last version with some ids; return whether it is right, and so became the last version."""
        version = grown(self.versions[-1], ids)
        right = is_right(self.patches, version, self.check)
        self.tests.append((version, right))
        if right:
            self.versions.append(list(version))
            for name in ids:
                self.verdicts[name] = ("in",)
        return right

    def bring(self, ids, wrong):
        """Bring a list of ids in; return whether it came in as one batch. It is told if all of it is known as wrong."""
        left = self.leave_out(ids)
        if not left:
            return False
        known = wrong and len(left) == len(ids)
        if not known and self.comes_in(left):
            return len(left) == len(ids)
        if len(left) == 1:
            self.verdicts[left[0]] = ("fails",)
            return False
        half = (len(left) + 1) // 2
        whole = self.bring(left[:half], False)
        # With all of the first half, the last version with the second half is what was found to be wrong.
        self.bring(left[half:], whole)
        return False


def halved(patches, main, queue, check):
    """Return the triple of the report, the main line and the tests of a queue that is brought in by halves."""
    halver = Halver(patches, main, check)
    halver.bring(list(queue), False)
    return [(name, halver.verdicts[name]) for name in queue], halver.versions, list(halver.tests)


def line_right(main, line, tested):
    """Return whether a list of versions is a main line by the versions that were found to be right."""
    if not line or line[0] != sorted(main):
        return False
    for at in range(1, len(line)):
        if line[at] not in tested or not all(name in line[at] for name in line[at - 1]):
            return False
    return True


def halves_right(patches, main, check, line, tests):
    """Return whether the tests of a paper are so, and show that a list of versions is a main line."""
    if not all(is_right(patches, version, check) == right for version, right in tests):
        return False
    return line_right(main, line, [version for version, right in tests if right])
