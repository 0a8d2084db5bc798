"""Quorums: which hands suffice to accept a patch, and which ones can hold it up."""

from itertools import combinations

from quiltward.demands import counting


def some_demands(rules):
    """Return the list of the demands of the kind "some"."""
    return [demand for demand in rules if demand[0] == "some"]


def hands_of(rules, author):
    """Return the list of the hands that count in some demand for a patch of an author, ascending."""
    return sorted({hand for demand in some_demands(rules) for hand in counting(demand, author)})


def suffices(rules, author, hands):
    """Return whether the demands of the kind "some" are met if just some hands agree."""
    for demand in some_demands(rules):
        if len([hand for hand in counting(demand, author) if hand in hands]) < demand[1]:
            return False
    return True


def has_one_of(lists, hands):
    """Return whether all of some hands of at least one list are among others."""
    return any(all(hand in hands for hand in row) for row in lists)


def quorums(rules, author):
    """Return the list of the quorums, the shorter ones first."""
    hands, found = hands_of(rules, author), []
    for size in range(len(hands) + 1):
        for chosen in combinations(hands, size):
            if suffices(rules, author, chosen) and not has_one_of(found, chosen):
                found.append(list(chosen))
    return found


def blockers(rules, author):
    """Return the list of the blockers, the shorter ones first."""
    return dual(quorums(rules, author), hands_of(rules, author))


def dual(lists, hands):
    """Return the list of the lists of hands that share a hand with each of some lists, and have no shorter such one."""
    found = []
    for size in range(len(hands) + 1):
        for chosen in combinations(hands, size):
            if all(share(row, chosen) for row in lists) and not has_one_of(found, chosen):
                found.append(list(chosen))
    return found


def share(one, other):
    """Return whether two lists share a hand."""
    return any(hand in other for hand in one)


def apart(rules, author):
    """Return the first pair of two quorums, or of twice the same one, that share no hand, or None."""
    rows = quorums(rules, author)
    for at, one in enumerate(rows):
        for other in rows[at:]:
            if not share(one, other):
                return list(one), list(other)
    return None
