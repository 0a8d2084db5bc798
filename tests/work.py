"""Repositories and random deeds for the tests of sessions, reclassification and projections."""

from build import PUBLIC, label, random_patch, random_rows
from quiltward.repos import Repo
from quiltward.sessions import Session
from quiltward.worlds import World

LOW, MID, HIGH = label(0), label(1, 2), label(3, 0, 2)
SIDE = label(2, 1)
RULES = [(("s",), HIGH), (("m",), MID), (("s", "low"), LOW), (("x",), SIDE)]
WORK_PATHS = [("a",), ("a", "b"), ("b",), ("m",), ("m", "1"), ("s",), ("s", "1"), ("s", "low"), ("x",), ("x", "y")]


def repo_of(rules, *rows):
    """A repository with some rules and patches."""
    repo = Repo(rules)
    for row in rows:
        repo.put(row)
    return repo


def ann_in(repo, clearance=HIGH, name="ann"):
    return Session(repo, name, clearance)


def state(repo):
    """All that a repository has."""
    return repo.rules, {at: repo.spaces[at] for at in repo.spaces if repo.spaces[at]}, repo.papers


def random_deed(rng, ids):
    """A random deed of point 75."""
    path, other = rng.choice(WORK_PATHS), rng.choice(WORK_PATHS)
    word = rng.choice(["put"] * 6 + ["drop", "record", "record", "record", "move", "back", "update", "update", "status",
                                     "paths", "log", "show", "whence", "differ"] + ["revert"] * (rng.random() < 0.2))
    if word == "put":
        return word, path, [rng.choice(["x", "y", "z", ""]) for _ in range(rng.randint(0, 4))]
    if word == "record":
        return word, rng.choice(["", "note", "~"])
    if word == "move":
        return word, path, other, "move"
    if word == "back":
        return word, rng.choice(ids + [(PUBLIC, "nobody", 1)]), "back"
    if word in ("drop", "show", "whence", "differ"):
        return word, path
    return (word,)


def all_ids(repo):
    """The ids of a repository, ascending."""
    return sorted(one for patches in repo.spaces.values() for one in patches)


def busy_repo(rng, many=3):
    """A repository in which some sessions have worked, with random patches of others at some labels."""
    repo = Repo(RULES)
    for at in [LOW, MID, HIGH, SIDE]:
        if rng.random() < 0.6:
            for row in random_rows(rng.randint(0, 999), rng.randint(1, 5), at):
                repo.put(row)
    sessions = [Session(repo, word, rng.choice([LOW, MID, HIGH, label(7, 0, 1, 2)])) for word in ["cid", "dan", "fay"][:many]]
    for _ in range(rng.randint(5, 40)):
        rng.choice(sessions).perform(random_deed(rng, all_ids(repo)))
    return repo


def outside_patch(rng, repo, at, name):
    """Put a random patch of somebody else into a space."""
    rows = list(repo.space(at).values())
    repo.put(random_patch(rng, rows, repo.next_id(at, name)))


TOP = label(7, 0, 1, 2)
HANDS = [("cid", HIGH), ("dan", MID), ("fay", LOW), ("gus", TOP)]
PREFIXES = [(), ("a",), ("a", "b"), ("m",), ("s",), ("s", "low"), ("x",), ("q",)]


def random_step(rng, ids):
    """A random pair of a name and a deed of a world."""
    hand = rng.choice(["cid", "cid", "dan", "fay", "gus"])
    if rng.random() < 0.06:
        return hand, ("reclass", rng.choice(PREFIXES), rng.choice([LOW, MID, HIGH, SIDE]))
    return hand, random_deed(rng, ids)


def busy_world(rng, many):
    """A world in which some random deeds were performed."""
    world = World(RULES, HANDS)
    for _ in range(many):
        world.perform(*random_step(rng, all_ids(world.repo)))
    return world


def world_state(world):
    """All that a world has."""
    sessions = {one: (who.name, who.clearance, who.edits, who.base) for one, who in world.sessions.items()}
    return state(world.repo), sessions
