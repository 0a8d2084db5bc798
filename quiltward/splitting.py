"""Splitting: the changes that record edits, label by label."""

from quiltward.graphs import file_graph
from quiltward.labels import sorted_labels
from quiltward.paths import label_of
from quiltward.trees import names
from quiltward.wants import cut_changes, in_parts, wanted

MOST_OLDS = 12


def split(edits, rules):
    """Return a dict from the labels of the paths of edits, in order, to the lists of these paths, ascending."""
    rows = {label: [] for label in sorted_labels([label_of(rules, path) for path in edits])}
    for path in sorted(edits):
        rows[label_of(rules, path)].append(path)
    return rows


def names_at(patches, file, path):
    """Return the list of the names of a file that count and have a path, ascending."""
    return [name for other, name in names(patches, file) if other == path]


def other_names(patches, file, path):
    """Return the list of the names of a file that count and have other paths."""
    return [name for other, name in names(patches, file) if other != path]


def taken_from(patches, file, path, gone):
    """Return the list of the changes that take a file from a path; the names that they drop are put into gone."""
    olds = names_at(patches, file, path)
    changes = [("drop", file, part) for part in in_parts(olds, MOST_OLDS)]
    for name in olds:
        gone[name] = True
    if all(name in gone for name in other_names(patches, file, path)):
        changes.extend(cut_changes(file, file_graph(patches, file).present_lines()))
    return changes


def new_file(path, texts, vertex):
    """Return the list of the changes that add a file, which has a vertex, with a path and texts."""
    changes = [("add", path)]
    if texts:
        changes.append(("lines", vertex, [], [], list(texts)))
    return changes


def changes_for(patches, files, path, texts, own, place, gone):
    """Return the list of the changes of a patch, from a place on, for the edit of one path."""
    stays = texts is not None and bool(files) and not other_names(patches, files[0], path)
    changes = wanted(file_graph(patches, files[0]), files[0], texts) if stays else []
    others = files[1:] if stays else files
    for file in others:
        changes.extend(taken_from(patches, file, path, gone))
    if texts is not None and not stays:
        changes.extend(new_file(path, texts, (own, place + len(changes), 0)))
    return changes


def part_of(patches, files, paths, edits, own):
    """Return the list of the changes of a patch for the edits of some paths, in the order given."""
    changes, gone = [], {}
    for path in paths:
        changes.extend(changes_for(patches, files.get(path, []), path, edits[path], own, len(changes), gone))
    return changes
