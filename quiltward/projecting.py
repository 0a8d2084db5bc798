"""Projections of repositories, and carrying a repository into another one."""

from quiltward.labels import is_below
from quiltward.reclassing import copy_of
from quiltward.sets import union


def projected_items(paper, clearance):
    """Return the items of a paper with a label that a clearance dominates, without texts that stand above it."""
    rows = []
    for path, old, new, texts in paper:
        if is_below(new, clearance):
            rows.append((path, old, new, texts))
        elif is_below(old, clearance):
            rows.append((path, old, new, None))
    return rows


def projected(repo, clearance):
    """Return the projection of a repository for a clearance."""
    other = copy_of(repo)
    other.spaces = {label: repo.space(label) for label in repo.labels() if is_below(label, clearance)}
    other.papers = [(name, rule, projected_items(paper, clearance)) for name, rule, paper in other.papers]
    return other


def carry(one, other):
    """Put all patches that a second repository lacks into it; return the list of the labels with new ones."""
    wholes = {label: union(other.space(label), one.space(label)) for label in one.labels()}
    rows = []
    for label in wholes:
        many = len(wholes[label]) - len(other.space(label))
        if many > 0:
            rows.append((label, many))
            other.spaces[label] = wholes[label]
    return rows
