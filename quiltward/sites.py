"""Sites, which exchange the patches of repositories with their peers, and may crash."""

from quiltward.archives import Archive
from quiltward.errors import PatchError
from quiltward.labels import is_below
from quiltward.repos import Repo
from quiltward.wires import End

NOTHING = (0, 0)


class SiteRepo(Repo):
    """The repository of a site, which tells the site of each patch, whoever puts it."""

    def __init__(self, rules, site):
        Repo.__init__(self, rules)
        self.site = site

    def put(self, patch):
        """Put a patch into the space of its label, and let the ends of the site have it."""
        label = patch[1][0]
        if not is_below(label, self.site.clearance):
            raise PatchError("label")
        super().put(patch)
        self.site.spread(label)


class Site:
    """A site: a repository, an archive, and the ends of the wires to its peers."""

    def __init__(self, rules, clearance, peers):
        self.rules = list(rules)
        self.clearance = clearance
        self.peers = {name: peers[name] for name in peers}
        self.repo = SiteRepo(self.rules, self)
        self.archive = Archive()
        self.ends = {}

    def put(self, patch):
        """Put a patch into the repository."""
        self.repo.put(patch)

    def is_shared(self, peer, label):
        """Return whether the clearances of the site and of a peer both dominate a label."""
        return is_below(label, self.clearance) and is_below(label, self.peers[peer])

    def end_for(self, peer, label):
        """Return the end for a peer at a label that both clearances dominate."""
        if (peer, label) not in self.ends:
            self.ends[(peer, label)] = End(label, self.repo.space(label))
        return self.ends[(peer, label)]

    def spread(self, label):
        """Let the space of a label and its ends have the same patches."""
        repo, ends = self.repo, [self.ends[key] for key in sorted(self.ends) if key[1] == label]
        patches, before = repo.space(label), -1
        # What one end gets may be what patches that wait at another one need.
        while len(patches) > before:
            before = len(patches)
            for end in ends:
                lacked = {name: patches[name] for name in patches if name not in end.patches}
                if lacked:
                    end.grow(lacked)
                if len(end.patches) > len(patches):
                    patches = {name: end.patches[name] for name in end.patches}
        if patches:
            repo.spaces[label] = patches

    def send(self, peer):
        """Save the repository, and return the list of the messages for a peer."""
        for label in self.repo.labels():
            self.spread(label)
        # A patch that may still be lost is not told to anybody.
        self.archive.save(self.repo)
        labels = [label for label in self.repo.labels() if self.repo.spaces[label] and self.is_shared(peer, label)]
        return [self.end_for(peer, label).message() for label in labels]

    def receive(self, peer, messages):
        """Receive what a peer has sent."""
        for message in messages:
            label = message[0]
            if self.is_shared(peer, label):
                self.spread(label)
                self.end_for(peer, label).receive(message)
                self.spread(label)

    def crash(self, kept):
        """Lose all but what the tapes keep, and restore the repository from them."""
        tapes = self.archive.tapes
        for label in tapes:
            tapes[label].crash(kept.get(label, NOTHING))
        repo = SiteRepo(self.rules, self)
        repo.spaces = self.archive.restore(self.rules, self.clearance).spaces
        self.repo = repo
        self.ends = {}
