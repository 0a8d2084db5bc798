"""Sets of patches: dicts from ids to patches that have everything that their patches need."""

from heapq import heappop, heappush

from quiltward.errors import ClashError, NeededError
from quiltward.patches import backs, check_fits, is_framed, needs, vertex_needs, wrong_place


def is_set(patches):
    """Return whether a dict from ids to patches is a set."""
    labels = {}
    for name, patch in patches.items():
        if patch[1] != name or not is_framed(patch) or wrong_place(None, patch) is not None:
            return False
        labels[name[0]] = True
    if len(labels) > 1:
        return False
    if not all(wrong_place(patches, patch) is None for patch in patches.values()):
        return False
    # Patches that need each other in a circle never come into an order.
    return len(order_of(patches)) == len(patches)


def with_patch(patches, patch):
    """Return a set with a patch more."""
    check_fits(patches, patch)
    rows = {name: patches[name] for name in patches}
    rows[patch[1]] = patch
    return rows


def set_of(row):
    """Return the set of a list of patches, put together one after the other."""
    patches = {}
    for patch in row:
        check_fits(patches, patch)
        patches[patch[1]] = patch
    return patches


def without(patches, name):
    """Return a set without a patch that nothing depends on."""
    ids = dependents(patches, name)
    if ids:
        raise NeededError(ids)
    return {other: patches[other] for other in patches if other != name}


def needs_table(patches):
    """Return a dict from the ids of patches to the lists of the ids of others of them that they need."""
    # What the rest of a stock needs may have been forgotten; a set has all that its patches need.
    return {name: [other for other in needs(patch) if other in patches] for name, patch in patches.items()}


def turned(table):
    """Return a dict that leads from each key to the ascending list of the keys whose lists have it."""
    rows = {name: [] for name in table}
    for name in sorted(table):
        for other in table[name]:
            rows[other].append(name)
    return rows


def reached(table, names):
    """Return the ascending list of some ids, and of all that a table leads to from them."""
    found = {name: True for name in names}
    left = list(found)
    while left:
        name = left.pop()
        for other in table[name]:
            if other not in found:
                found[other] = True
                left.append(other)
    return sorted(found)


def dependents(patches, name):
    """Return the list of the dependents of a patch, ascending."""
    return [other for other in reached(turned(needs_table(patches)), [name]) if other != name]


def all_needs(patches, name):
    """Return the list of the ids that a patch needs, directly or through others, ascending."""
    return [other for other in reached(needs_table(patches), [name]) if other != name]


def closure(patches, names):
    """Return the smallest part of a set that is a set and has the ids of a list."""
    return {name: patches[name] for name in reached(needs_table(patches), names)}


def order_along(table):
    """Return the keys of a table of needs, each behind those it needs, the least first; without those in circles."""
    takers = turned(table)
    missing = {name: len(table[name]) for name in table}
    # An ascending list is a heap already.
    ready = sorted([name for name in missing if missing[name] == 0])
    order = []
    while ready:
        name = heappop(ready)
        order.append(name)
        for other in takers[name]:
            missing[other] -= 1
            if missing[other] == 0:
                heappush(ready, other)
    return order


def order_of(patches):
    """Return the order of a set in which the least id comes first, as long as there is a choice."""
    return order_along(needs_table(patches))


def order_right(patches, order):
    """Return whether a list of ids is an order of a set."""
    seen = {}
    for name in order:
        if name not in patches or name in seen:
            return False
        if not all(other in seen for other in needs(patches[name])):
            return False
        seen[name] = True
    return len(seen) == len(patches)


def clashes(one, other):
    """Return the list of the ids with which two sets clash, ascending."""
    return sorted([name for name in one if name in other and one[name] != other[name]])


def union(one, other):
    """Return the set of the patches of two sets."""
    ids = clashes(one, other)
    if ids:
        raise ClashError(ids)
    rows = {name: one[name] for name in one}
    for name in other:
        rows[name] = other[name]
    return rows


def standing(patches):
    """Return a dict from the ids of the patches that stand to True."""
    found, fallen = {}, {}
    # Only patches behind a patch take it back, so it is settled when its turn comes from the end.
    for name in reversed(order_of(patches)):
        if name not in fallen:
            found[name] = True
            for other in backs(patches[name]):
                fallen[other] = True
    return found


def counted(patches):
    """Return a dict from the ids of the patches that count to True."""
    found = standing(patches)
    # The patches that have a vertex of a patch stand behind it, and are settled before it.
    for name in reversed(order_of(patches)):
        if name in found:
            for other in vertex_needs(patches[name]):
                found[other] = True
    return found
