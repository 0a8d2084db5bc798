"""Worlds: a repository with its sessions, some of which may reclassify."""

from quiltward.paths import label_of
from quiltward.reclassing import may_reclass, reclass
from quiltward.repos import Repo
from quiltward.sessions import Session, refused

MOST_RULES = 32


class World:
    """A world: a repository, and a session for each name."""

    def __init__(self, rules, hands):
        self.repo = Repo(rules)
        self.sessions = {name: Session(self.repo, name, clearance) for name, clearance in hands}

    def perform(self, name, deed):
        """Let a session perform a deed and return the answer."""
        if deed[0] == "reclass":
            return self.reclassify(self.sessions[name], deed[1], deed[2])
        return self.sessions[name].perform(deed)

    def reclassify(self, session, prefix, label):
        """Add a rule for a session and return the answer."""
        rules = self.repo.rules
        if not may_reclass(rules, session.clearance, prefix, label):
            return refused("denied")
        if len(rules) >= MOST_RULES:
            return refused("size")
        paper = reclass(self.repo, session.name, prefix, label)
        self.forget_turned(rules)
        return "paper", paper

    def forget_turned(self, rules):
        """Let all sessions forget their edits of paths that have another label by the rules than by elder ones."""
        for session in self.sessions.values():
            session.forget([path for path in session.edits
                            if label_of(rules, path) != label_of(self.repo.rules, path)])
