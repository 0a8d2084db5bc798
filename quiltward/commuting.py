"""Changing places: the orders of a set, and how one leads to another one."""

from quiltward.patches import needs
from quiltward.sets import all_needs, dependents, order_of


def independent(patch, other):
    """Return whether neither of two patches needs the other one itself."""
    return other[1] not in needs(patch) and patch[1] not in needs(other)


def may_change(row, at):
    """Return whether a list has patches at an index and behind it, and they may change places."""
    return 0 <= at < len(row) - 1 and row[at][1] not in needs(row[at + 1])


def swapped(row, at):
    """Return a list of patches with the ones at an index and behind it exchanged, or None."""
    return after_swaps(row, [at])


def swaps_between(row, other):
    """Return the list of the indexes at which patches change places to lead from one order to another one."""
    ids, swaps = [patch[1] for patch in row], []
    for place, patch in enumerate(other):
        at = ids.index(patch[1])
        swaps.extend([k - 1 for k in range(at, place, -1)])
        ids.insert(place, ids.pop(at))
    return swaps


def after_swaps(row, swaps):
    """Return a list of patches after some changes of places, or None if one may not be made."""
    rows = list(row)
    for at in swaps:
        if not may_change(rows, at):
            return None
        rows[at], rows[at + 1] = rows[at + 1], rows[at]
    return rows


def count_orders(patches):
    """Return in how many orders a set can be."""
    bits = {name: 1 << k for k, name in enumerate(sorted(patches))}
    needed = {name: sum([bits[other] for other in needs(patches[name])]) for name in patches}
    # The keys are sums of the bits of the patches at the beginning; the values tell in how many orders these can be.
    ways = {0: 1}
    for _ in range(len(patches)):
        longer = {}
        for mask in ways:
            for name in patches:
                if not mask & bits[name] and mask & needed[name] == needed[name]:
                    longer[mask | bits[name]] = longer.get(mask | bits[name], 0) + ways[mask]
        ways = longer
    return sum(ways.values())


def inverse(patch, name, note):
    """Return the inverse of a patch, with an id and a note."""
    return "patch", name, [("back", patch[1])], note


def parted(patches, name):
    """Return the triple of the lists of the ids that a patch needs, of those in between, and of its dependents."""
    front, behind = all_needs(patches, name), dependents(patches, name)
    apart = {other: True for other in front + behind + [name]}
    return front, [other for other in sorted(patches) if other not in apart], behind


def order_with(patches, name):
    """Return an order in which all patches that a patch does not need stand behind it."""
    front = {other: True for other in all_needs(patches, name)}
    order = order_of(patches)
    rest = [other for other in order if other not in front and other != name]
    return [other for other in order if other in front] + [name] + rest
