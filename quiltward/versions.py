"""Versions: parts of a set that are sets, the steps that lead from one to another one, and where they differ."""

from quiltward.blocks import shown
from quiltward.graphs import file_graph
from quiltward.patches import needs
from quiltward.sets import closure, needs_table, turned
from quiltward.trees import tree


def is_version(patches, ids):
    """Return whether different ids of a set are a version."""
    inside = {name: True for name in ids}
    return all(other in inside for name in ids for other in needs(patches[name]))


def tops(patches, ids):
    """Return the tops of a version, ascending."""
    needed = {other: True for name in ids for other in needs(patches[name])}
    return [name for name in sorted(ids) if name not in needed]


def version_of(patches, ids):
    """Return the list of the ids of the smallest version with some ids, ascending."""
    return sorted(closure(patches, ids))


def joined_tops(patches, one, other):
    """Return the version of the patches of two versions together."""
    return tops(patches, version_of(patches, one + other))


def common_tops(patches, one, other):
    """Return the version of the patches that two versions both have."""
    second = closure(patches, other)
    return tops(patches, [name for name in version_of(patches, one) if name in second])


def taken_out_in_turn(patches, ids):
    """Return a list of ids in the order in which each time the greatest one that no other one left needs comes next."""
    left = {name: True for name in ids}
    takers = {name: 0 for name in ids}
    for name in ids:
        for other in needs(patches[name]):
            if other in left:
                takers[other] += 1
    order = []
    while left:
        name = max([one for one in left if takers[one] == 0])
        order.append(name)
        del left[name]
        for other in needs(patches[name]):
            if other in left:
                takers[other] -= 1
    return order


def steps_from(patches, one, other):
    """Return the list of the steps from one version to another one."""
    first, second = closure(patches, one), closure(patches, other)
    gone = taken_out_in_turn(patches, [name for name in first if name not in second])
    come = taken_out_in_turn(patches, [name for name in second if name not in first])
    return [("out", name) for name in gone] + [("in", name) for name in come[::-1]]


def steps_right(patches, one, other, steps):
    """Return whether a list of pairs of a word and an id are steps between two versions, no more than are needed."""
    version, second = closure(patches, one), closure(patches, other)
    if len(steps) != len(set(list(version)) ^ set(list(second))):
        return False
    table = needs_table(patches)
    takers = turned(table)
    for word, name in steps:
        if word == "in" and name in patches and name not in version:
            if not all(needed in version for needed in table[name]):
                return False
            version[name] = True
        elif word == "out" and name in version and not any(taker in version for taker in takers[name]):
            del version[name]
        else:
            return False
    return sorted(version) == sorted(second)


def shown_at(patches):
    """Return a dict from the paths of a set to the lists of the pairs of a file and of what it shows."""
    return {path: [(file, shown(file_graph(patches, file))) for file in files] for path, files in tree(patches)}


def changed_paths(patches, one, other):
    """Return the list of the triples (path, in the first one, in the second one) where two versions differ."""
    first, second = shown_at(closure(patches, one)), shown_at(closure(patches, other))
    rows = [(path, first.get(path, []), second.get(path, [])) for path in sorted(set(list(first)) | set(list(second)))]
    return [row for row in rows if row[1] != row[2]]
