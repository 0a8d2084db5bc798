"""Logs, which keep a set of patches of one label and its tags on a tape."""

from quiltward.errors import MissingError, NeededError, PatchError
from quiltward.sets import order_of, with_patch, without
from quiltward.written import read_id, read_patch, show_id, show_patch


def put_entry(patch):
    """Return the entry that puts a patch into the set."""
    return "\n".join(["put"] + show_patch(patch))


def tag_entry(name, ids):
    """Return the entry that makes a tag."""
    return " ".join(["tag", name] + [show_id(one) for one in ids])


class Log:
    """A log for one label."""

    def __init__(self, tape, label):
        self.tape = tape
        self.label = label
        self.patches = {}
        self.tags = {}
        for entry in tape.recover():
            self.redo(entry)

    def redo(self, entry):
        """Do again what an entry of the tape tells."""
        lines = entry.split("\n")
        words = lines[0].split(" ")
        if words[0] == "put":
            patch = read_patch(lines[1:])
            # Nobody has seen the set yet, so it may grow in its place.
            self.patches[patch[1]] = patch
        elif words[0] == "out":
            del self.patches[read_id(words[1])]
        elif words[0] == "tag":
            self.tags[words[1]] = [read_id(word) for word in words[2:]]
        else:
            del self.tags[words[1]]

    def put(self, patch):
        """Put a patch into the set."""
        if patch[1][0] != self.label:
            raise PatchError("label")
        self.patches = with_patch(self.patches, patch)
        self.tape.append(put_entry(patch))

    def out(self, name):
        """Take the patch with an id out of the set."""
        if name not in self.patches:
            raise MissingError(name)
        rest = without(self.patches, name)
        if any([name in ids for ids in self.tags.values()]):
            raise NeededError([])
        self.patches = rest
        self.tape.append(f"out {show_id(name)}")

    def tag(self, name, ids):
        """Make a tag, or make it another one."""
        for one in ids:
            if one not in self.patches:
                raise MissingError(one)
        self.tags[name] = sorted(set(ids))
        self.tape.append(tag_entry(name, self.tags[name]))

    def untag(self, name):
        """Remove a tag."""
        if name not in self.tags:
            raise MissingError(name)
        del self.tags[name]
        self.tape.append(f"untag {name}")

    def sync(self):
        """Make all that was done safe."""
        self.tape.sync()

    def entries(self):
        """Return the list of the entries of a compaction."""
        rows = [put_entry(self.patches[name]) for name in order_of(self.patches)]
        return rows + [tag_entry(name, self.tags[name]) for name in sorted(self.tags)]
