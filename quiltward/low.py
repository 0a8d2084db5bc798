"""Comparisons of two worlds, which show that nothing told depends on what stands at other labels."""

from quiltward.labels import is_below
from quiltward.paths import label_of
from quiltward.projecting import projected
from quiltward.reclassing import copy_of, held_spaces
from quiltward.sessions import PATH_DEEDS, Session
from quiltward.worlds import World


def view(repo, clearance):
    """Return the triple of the rules, the spaces and the papers of a projection."""
    part = projected(repo, clearance)
    return part.rules, part.spaces, part.papers


def alike(one, other, clearance):
    """Return whether the projections of two repositories are the same."""
    part, second = projected(one, clearance), projected(other, clearance)
    same = part.rules == second.rules and part.papers == second.papers
    # Each label has a space, so one that is empty is the same as one that is not told.
    return same and held_spaces(part) == held_spaces(second)


def is_secret(world, clearance, name, deed):
    """Return whether a deed of a session is secret from a clearance."""
    if deed[0] == "back":
        return not is_below(deed[1][0], clearance)
    return deed[0] in PATH_DEEDS and not is_below(label_of(world.repo.rules, deed[1]), clearance)


def copy_of_edits(edits):
    """Return a copy of edits."""
    return {path: None if edits[path] is None else list(edits[path]) for path in edits}


def copy_of_world(world):
    """Return a copy of a world."""
    repo, sessions = copy_of(world.repo), {}
    for name, session in world.sessions.items():
        twin = Session(repo, name, session.clearance)
        twin.edits = copy_of_edits(session.edits)
        twin.base = {label: session.base[label] for label in session.base}
        sessions[name] = twin
    other = World([], [])
    other.repo = repo
    other.sessions = sessions
    return other


def behind_secrets(world, clearance, row, at):
    """Let a world perform the secret deeds of a list from an index on; return the index behind them."""
    while at < len(row) and is_secret(world, clearance, row[at][0], row[at][1]):
        world.perform(row[at][0], row[at][1])
        at += 1
    return at


def compare(worlds, clearance, rows):
    """Return the pair of how a comparison of two worlds ends, and of how many answers were compared."""
    # The deeds are performed in copies, so that the worlds that were passed stay as they are.
    one, other = copy_of_world(worlds[0]), copy_of_world(worlds[1])
    row, second = rows
    i, j, count = 0, 0, 0
    while True:
        i = behind_secrets(one, clearance, row, i)
        j = behind_secrets(other, clearance, second, j)
        if not alike(one.repo, other.repo, clearance):
            return "unfair", count
        if i == len(row) and j == len(second):
            return "same", count
        if i == len(row) or j == len(second) or row[i] != second[j]:
            return "unfair", count
        name, deed = row[i]
        answers = [one.perform(name, deed), other.perform(name, deed)]
        i, j = i + 1, j + 1
        if is_below(one.sessions[name].clearance, clearance):
            count += 1
            if answers[0] != answers[1]:
                return "different", count
