"""File graphs: the lines of a file, and which of them are before others."""

from quiltward.sets import counted, standing


def finished(edges, lines):
    """Return some lines and all that edges lead to; circles aside, each stands behind those that it leads to."""
    order, seen = [], {}
    for start in lines:
        stack = [(start, False)]
        while stack:
            line, left = stack.pop()
            if left:
                order.append(line)
            elif line not in seen:
                seen[line] = True
                stack.append((line, True))
                stack.extend([(other, False) for other in edges.get(line, []) if other not in seen])
    return order


def masks_along(edges, bits):
    """Return a dict from lines to the sums of the bits of the lines to which one or more edges lead."""
    order = finished(edges, sorted(bits))
    masks = {line: 0 for line in order}
    changed = True
    # Without circles the first round does it all; circles may take some more.
    while changed:
        changed = False
        for line in order:
            mask = masks[line]
            for other in edges.get(line, []):
                mask = mask | masks[other] | bits[other]
            if mask != masks[line]:
                masks[line] = mask
                changed = True
    return masks


def backwards(edges):
    """Return the edges in the other direction."""
    rows = {}
    for line in edges:
        for other in edges[line]:
            rows.setdefault(other, []).append(line)
    return rows


class FileGraph:
    """A file graph: all lines with their texts, the present ones, and the edges."""

    def __init__(self, lines, present, edges):
        self.lines = {line: lines[line] for line in lines}
        self.present = {line: True for line in present}
        self.edges = {line: list(edges[line]) for line in edges}
        # Each line has a bit of its own; sums of bits stand for lists of lines.
        self.bits = {line: 1 << k for k, line in enumerate(sorted(lines))}
        # This is found out here, so that a graph that was passed does not change when it is asked.
        self.later = masks_along(self.edges, self.bits)
        self.earlier = masks_along(backwards(self.edges), self.bits)

    def before(self, one, other):
        """Return whether a line is before another one, or itself."""
        return self.later[one] & self.bits[other] != 0

    def strictly(self, one, other):
        """Return whether a line is strictly before another one."""
        return self.before(one, other) and not self.before(other, one)

    def apart(self, one, other):
        """Return whether neither of two lines is strictly before the other one."""
        return self.before(one, other) == self.before(other, one)

    def present_lines(self):
        """Return the list of the present lines, ascending."""
        return sorted(self.present)

    def mask_of(self, lines):
        """Return the sum of the bits of a list of lines."""
        return sum([self.bits[line] for line in lines])

    def mask_behind(self, line):
        """Return the sum of the bits of the lines that a line is strictly before."""
        return self.later[line] & ~self.earlier[line]

    def mask_in_front(self, line):
        """Return the sum of the bits of the lines that are strictly before a line."""
        return self.earlier[line] & ~self.later[line]


def file_changes(patches, file):
    """Return the list of the triples (id, place, change) of the changes of the lines of a file."""
    rows = []
    for name in sorted(patches):
        for place, change in enumerate(patches[name][2]):
            if change[0] in ("lines", "cut", "order") and change[1] == file:
                rows.append((name, place, change))
    return rows


def pairs_of(name, place, change):
    """Return the list of the pairs of lines between which a "lines" or an "order" change makes an edge."""
    if change[0] == "order":
        return [(change[2], change[3])]
    row = [(name, place, k) for k in range(len(change[4]))]
    pairs = [(row[k], row[k + 1]) for k in range(len(row) - 1)]
    return pairs + [(up, row[0]) for up in change[2]] + [(row[-1], down) for down in change[3]]


def edges_of(rows, found, counts):
    """Return the edges that changes make, for the patches that stand and those that count."""
    table = {}
    for name, place, change in rows:
        if (change[0] == "lines" and name in counts) or (change[0] == "order" and name in found):
            for one, other in pairs_of(name, place, change):
                table.setdefault(one, {})[other] = True
    return {line: sorted(table[line]) for line in table}


def made_lines(rows):
    """Return a dict from the lines that changes make to their texts."""
    return {(name, place, k): text for name, place, change in rows if change[0] == "lines"
            for k, text in enumerate(change[4])}


def cut_lines(rows, found):
    """Return a dict with the lines that changes of patches that stand take out as keys, and True."""
    return {vertex: True for name, _, change in rows if change[0] == "cut" and name in found for vertex in change[2]}


def file_graph(patches, file):
    """Return the graph of a file of a set."""
    found = standing(patches)
    rows = file_changes(patches, file)
    lines, fallen = made_lines(rows), cut_lines(rows, found)
    present = {line: True for line in lines if line[0] in found and line not in fallen}
    return FileGraph(lines, present, edges_of(rows, found, counted(patches)))
