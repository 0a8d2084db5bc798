"""Repositories: rules, and a space for each label."""

from quiltward.labels import is_below, sorted_labels
from quiltward.paths import label_of
from quiltward.sets import with_patch
from quiltward.trees import tree


class Repo:
    """A repository: its rules, its spaces and its papers."""

    def __init__(self, rules):
        self.rules = list(rules)
        self.spaces = {}
        self.papers = []

    def space(self, label):
        """Return the set of a label."""
        patches = self.spaces.get(label, {})
        return {name: patches[name] for name in patches}

    def labels(self):
        """Return the list of the labels that have had patches, in order."""
        return sorted_labels(self.spaces)

    def put(self, patch):
        """Put a patch into the space of its label."""
        label = patch[1][0]
        # Sets are not modified once they were seen, so the space gets a new one.
        self.spaces[label] = with_patch(self.spaces.get(label, {}), patch)

    def next_id(self, label, name):
        """Return the next id of a name at a label."""
        numbers = [number for _, hand, number in self.spaces.get(label, {}) if hand == name]
        return label, name, max(numbers, default=0) + 1


def files_at(rules, label, patches):
    """Return a dict from the paths with a label that have files in a set to the lists of these, ascending."""
    return {path: files for path, files in tree(patches) if label_of(rules, path) == label}


def files_below(rules, spaces, clearance):
    """Return a dict from the paths with labels that a clearance dominates to the lists of their files in spaces."""
    rows = {}
    for label in sorted_labels(spaces):
        if is_below(label, clearance):
            found = files_at(rules, label, spaces[label])
            for path in found:
                rows[path] = found[path]
    return rows
