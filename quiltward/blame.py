"""Whence the lines of a file are, and why they are there or not."""

from quiltward.patches import backs
from quiltward.sets import standing


def changes_of(patches, file):
    """Return the list of the changes of a file, but the one that adds it, by patches that stand, ascending."""
    rows = []
    for name in sorted(standing(patches)):
        for place, change in enumerate(patches[name][2]):
            if change[0] not in ("add", "back") and change[1] == file:
                rows.append((name, place))
    return rows


def lines_in(patches, file):
    """Return the list of the triples (vertex, text, whether its patch stands) of all lines of a file, ascending."""
    found = standing(patches)
    rows = []
    for name in sorted(patches):
        for place, change in enumerate(patches[name][2]):
            if change[0] == "lines" and change[1] == file:
                rows.extend([((name, place, k), text, name in found) for k, text in enumerate(change[4])])
    return rows


def cuts_of(patches, file):
    """Return a dict from the lines of a file that changes of standing patches take out to the lists of these."""
    rows = {}
    for name, place in changes_of(patches, file):
        change = patches[name][2][place]
        if change[0] == "cut":
            for vertex in change[2]:
                rows.setdefault(vertex, []).append((name, place))
    return rows


def takers_of(patches, name):
    """Return the list of the ids of the patches that stand and take a patch back, ascending."""
    return [other for other in sorted(standing(patches)) if name in backs(patches[other])]


def is_live(patches, file, vertex):
    """Return whether a line of a file is there."""
    return vertex in live_lines(patches, file)


def whence(patches, file, vertex):
    """Return why a line of a file is there or not."""
    if vertex[0] not in standing(patches):
        return "taken back", takers_of(patches, vertex[0])
    return why_standing(cuts_of(patches, file), vertex)


def why_standing(cuts, vertex):
    """Return why a line whose patch stands is there or not; cuts are those of its file."""
    if vertex in cuts:
        return "cut", list(cuts[vertex])
    return "there", [(vertex[0], vertex[1])]


def blame(patches, file):
    """Return the list of the pairs of a line and why it is there or not, for all lines of a file, ascending."""
    cuts = cuts_of(patches, file)
    rows, takers = [], {}
    for vertex, _, stands in lines_in(patches, file):
        if stands:
            rows.append((vertex, why_standing(cuts, vertex)))
            continue
        if vertex[0] not in takers:
            takers[vertex[0]] = takers_of(patches, vertex[0])
        rows.append((vertex, ("taken back", list(takers[vertex[0]]))))
    return rows


def live_lines(patches, file):
    """Return the list of the lines of a file that are there, ascending."""
    cuts = cuts_of(patches, file)
    return [vertex for vertex, _, stands in lines_in(patches, file) if stands and vertex not in cuts]


def history(patches, file):
    """Return the list of the ids of the patches that stand and add or change a file, ascending."""
    found = {name: True for name, _ in changes_of(patches, file)}
    if file[0] in standing(patches):
        found[file[0]] = True
    return sorted(found)


def shares(patches, file):
    """Return a dict from the names of those who recorded lines that are there to how many these are."""
    rows = {}
    for vertex in live_lines(patches, file):
        hand = vertex[0][1]
        rows[hand] = rows.get(hand, 0) + 1
    return rows
