"""Picking: carrying ids from one set to another one with what they need, and taking ids out with what needs them."""

from quiltward.errors import ClashError
from quiltward.patches import needs
from quiltward.sets import clashes, closure, needs_table, reached, turned


def picked(source, target, wanted):
    """Return the list of the ids that are carried for a list of wanted ids, ascending."""
    ids = clashes(source, target)
    if ids:
        raise ClashError(ids)
    part = closure(source, [name for name in wanted if name not in target])
    return [name for name in sorted(part) if name not in target]


def pick(source, target, wanted):
    """Return the target with the wanted ids and what they need."""
    rows = {name: target[name] for name in target}
    for name in picked(source, target, wanted):
        rows[name] = source[name]
    return rows


def chains(source, target, wanted):
    """Return a paper: for each carried id, ascending, the pair of it and a chain with the fewest ids."""
    carried = picked(source, target, wanted)
    found = {name: [name] for name in carried if name in wanted}
    last = list(found)
    while last:
        more = []
        for name in last:
            for other in needs(source[name]):
                if other not in found and other not in target:
                    found[other] = found[name] + [other]
                    more.append(other)
        last = more
    return [(name, found[name]) for name in carried]


def chain_right(source, carried, wanted, name, chain):
    """Return whether a list of ids is a chain of carried ids from a wanted one to an id."""
    if not chain or chain[0] not in wanted or chain[-1] != name:
        return False
    if not all(one in carried for one in chain):
        return False
    return all(chain[k + 1] in needs(source[chain[k]]) for k in range(len(chain) - 1))


def chains_right(source, target, wanted, paper):
    """Return whether a list of pairs of an id and a list of ids is an accepted paper."""
    carried = picked(source, target, wanted)
    if [name for name, _ in paper] != carried:
        return False
    return all(chain_right(source, carried, wanted, name, chain) for name, chain in paper)


def taken_out(patches, unwanted):
    """Return the list of the ids that are taken out with a list of ids, ascending."""
    return reached(turned(needs_table(patches)), [name for name in unwanted if name in patches])


def take_out(patches, unwanted):
    """Return a set without a list of ids and their dependents."""
    gone = {name: True for name in taken_out(patches, unwanted)}
    return {name: patches[name] for name in patches if name not in gone}
