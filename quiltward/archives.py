"""Archives, which keep the spaces of repositories on tapes, label by label."""

from quiltward.labels import is_below, sorted_labels
from quiltward.logs import Log
from quiltward.repos import Repo
from quiltward.sets import order_of
from quiltward.tapes import Tape


class Archive:
    """An archive with a tape for each label that it has met."""

    def __init__(self):
        self.tapes = {}

    def save(self, repo):
        """Save a repository; return the list of the pairs (label, how many patches were put)."""
        rows = []
        for label in repo.labels():
            many = self.save_space(label, repo.space(label))
            if many > 0:
                rows.append((label, many))
        return rows

    def save_space(self, label, patches):
        """Put those patches of a space into its log that this does not have; return how many."""
        if label not in self.tapes:
            self.tapes[label] = Tape()
        # The log is made anew each time, as the tape may have crashed since it was used last.
        log = Log(self.tapes[label], label)
        new = [patches[name] for name in order_of(patches) if log.patches.get(name) != patches[name]]
        for patch in new:
            log.put(patch)
        log.sync()
        return len(new)

    def restore(self, rules, clearance):
        """Recover all tapes; return the repository with the spaces that a clearance dominates."""
        repo = Repo(rules)
        for label in sorted_labels(self.tapes):
            patches = Log(self.tapes[label], label).patches
            if patches and is_below(label, clearance):
                repo.spaces[label] = patches
        return repo
