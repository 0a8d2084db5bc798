"""Paths, and the rules that give them labels."""

from quiltward.labels import PUBLIC
from quiltward.patches import is_path


def begins(prefix, path):
    """Return whether a prefix begins a path, or another prefix."""
    return path[:len(prefix)] == prefix


def show_path(path):
    """Return the text of a path."""
    return "/".join(path)


def parse_path(text):
    """Return the path that a text shows, or None."""
    path = tuple(text.split("/"))
    return path if is_path(path) else None


def rule_at(rules, path):
    """Return the index of the rule that counts for a path or prefix, or None."""
    best = None
    for at, (prefix, _) in enumerate(rules):
        # Prefixes of one length that begin the same path are the same, and of these the last one counts.
        if begins(prefix, path) and (best is None or len(prefix) >= len(rules[best][0])):
            best = at
    return best


def label_of(rules, path):
    """Return the label of a path or prefix."""
    at = rule_at(rules, path)
    return PUBLIC if at is None else rules[at][1]
