"""Wants: the changes that make texts the shown lines of a file."""

from quiltward.blocks import blocks, shown_order
from quiltward.scripts import steps_between

MOST_CUT = 200


def in_parts(rows, size):
    """Return a list in parts of so many items; the last one has what is left."""
    return [rows[at:at + size] for at in range(0, len(rows), size)]


def cut_changes(file, lines):
    """Return the list of the changes that take lines out of a file."""
    return [("cut", file, part) for part in in_parts(sorted(lines), MOST_CUT)]


def in_circles(graph):
    """Return a dict with the present lines that are in a circle as keys, and True."""
    found = {}
    # Lines that are before each other are apart, so they stand in one block.
    for block in blocks(graph):
        for line in block:
            if any(line != one and graph.before(line, one) and graph.before(one, line) for one in block):
                found[line] = True
    return found


def gaps(lines, texts, steps):
    """Return the triples of a kept line, the texts that are put behind it, and the next kept line, by a script.

    None stands in the place of a line in front of the first kept one and behind the last one.
    """
    rows, front, put = [], None, []
    for step in steps:
        if step[0] == "put":
            put.append(texts[step[1]])
        if step[0] == "keep":
            rows.append((front, put, lines[step[1]]))
            front, put = lines[step[1]], []
    return rows + [(front, put, None)]


def gap_changes(graph, file, rows):
    """Return the list of the changes that put texts between kept lines, and the kept lines into their order."""
    changes = []
    for front, put, behind in rows:
        if put:
            ups = [] if front is None else [front]
            downs = [] if behind is None else [behind]
            changes.append(("lines", file, ups, downs, put))
        elif front is not None and behind is not None and not graph.strictly(front, behind):
            changes.append(("order", file, front, behind))
    return changes


def wanted(graph, file, texts):
    """Return the list of the changes that make texts the shown lines of a file."""
    lines, circled = shown_order(graph), in_circles(graph)
    steps = steps_between([None if line in circled else graph.lines[line] for line in lines], texts)
    fallen = [lines[step[1]] for step in steps if step[0] == "cut"]
    return cut_changes(file, fallen) + gap_changes(graph, file, gaps(lines, texts, steps))
