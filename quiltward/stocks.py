"""Stocks: what is kept of patches that are forgotten."""

from quiltward.graphs import FileGraph, cut_lines, edges_of, file_changes, file_graph, made_lines
from quiltward.patches import backs, marked_vertices, needs, vertex_needs
from quiltward.sets import counted, standing
from quiltward.trees import files_of, made_names, replaced_names, standing_changes, table_of_names, tree_of_names


def part_of_set(patches, ids):
    """Return a dict from some ids to their patches."""
    return {name: patches[name] for name in sorted(ids)}


def rest_of(patches, ids):
    """Return the dict of the patches of a set without some ids."""
    gone = {name: True for name in ids}
    return {name: patches[name] for name in patches if name not in gone}


def may_forget(patches, ids):
    """Return whether some ids of a set may be forgotten."""
    part = part_of_set(patches, ids)
    if not all(other in part for row in part.values() for other in needs(row)):
        return False
    found = standing(part)
    for row in rest_of(patches, ids).values():
        if any(name in part for name in backs(row)):
            return False
        if any(name in part and name not in found for name in vertex_needs(row)):
            return False
    return True


def vertices_in(patches):
    """Return a dict with the vertices in the changes of patches as keys, and True."""
    return {vertex: True for row in patches.values() for change in row[2] for _, vertex in marked_vertices(change)}


def kept_names(rows, file, used):
    """Return a dict from the names of a file that are kept to the pairs of the path and of whether the name counts."""
    replaced = replaced_names(rows)
    return {name: (path, name not in replaced) for other, path, name in made_names(rows)
            if other == file and (name not in replaced or name in used)}


def kept_of_file(part, rows, file, used):
    """Return what a stock keeps of a file: its names, its lines, the present ones, and which are before which."""
    graph = file_graph(part, file)
    kept = [line for line in sorted(graph.lines) if line in graph.present or line in used]
    lines = {line: graph.lines[line] for line in kept}
    order = {line: [other for other in kept if graph.before(line, other)] for line in kept}
    return kept_names(rows, file, used), lines, [line for line in kept if line in graph.present], order


def stock_of(patches, ids):
    """Return the stock of some ids that may be forgotten."""
    part, files = part_of_set(patches, ids), {}
    rows, used = standing_changes(part), vertices_in(rest_of(patches, ids))
    for file in files_of(part):
        kept = kept_of_file(part, rows, file, used)
        if file in used or kept[1] or any(counts for _, counts in kept[0].values()):
            files[file] = kept
    return "stock", {name: True for name in part}, files


def is_kept(stock, word, vertex, file):
    """Return whether a stock keeps a vertex, as a file, or as a name or a line of a file."""
    if file not in stock[2]:
        return False
    names, lines, _, _ = stock[2][file]
    return word == "file" or vertex in (names if word == "name" else lines)


def is_strange(stock, rest, patch):
    """Return whether a patch has an id that is there or was forgotten, or has another label than these have."""
    for ids in (stock[1], rest):
        first = next(iter(ids), None)
        if first is not None and (first[0] != patch[1][0] or patch[1] in ids):
            return True
    return False


def fits_stock(stock, rest, patch):
    """Return whether a well formed patch fits a stock and the rest."""
    if is_strange(stock, rest, patch) or not all(name in rest for name in backs(patch)):
        return False
    for change in patch[2]:
        for word, vertex in marked_vertices(change):
            if vertex[0] in stock[1]:
                if not is_kept(stock, word, vertex, change[1]):
                    return False
            elif vertex[0] != patch[1] and vertex[0] not in rest:
                return False
    return True


def joined_edges(one, other):
    """Return the edges of two dicts from lines to lists of lines."""
    table = {}
    for edges in (one, other):
        for line in edges:
            for behind in edges[line]:
                table.setdefault(line, {})[behind] = True
    return {line: sorted(table[line]) for line in table}


def stock_graph(stock, rest, file):
    """Return the graph of a file of a stock and the rest."""
    found, rows = standing(rest), file_changes(rest, file)
    fallen, own = cut_lines(rows, found), made_lines(rows)
    _, kept, there, order = stock[2].get(file, ({}, {}, [], {}))
    lines = {line: kept[line] for line in kept}
    for line in own:
        lines[line] = own[line]
    standing_lines = there + [line for line in own if line[0] in found]
    present = {line: True for line in standing_lines if line not in fallen}
    return FileGraph(lines, present, joined_edges(order, edges_of(rows, found, counted(rest))))


def stock_names_table(stock, rest):
    """Return a dict from the files of a stock and the rest to the lists of the pairs of their names."""
    rows = standing_changes(rest)
    triples = made_names(rows)
    for file in stock[2]:
        names = stock[2][file][0]
        triples.extend([(file, names[name][0], name) for name in names if names[name][1]])
    files = sorted(list(stock[2]) + files_of(rest))
    return table_of_names(files, triples, replaced_names(rows))


def stock_names(stock, rest, file):
    """Return the list of the pairs of a path and a name of a file of a stock and the rest, ascending."""
    return stock_names_table(stock, rest).get(file, [])


def stock_tree(stock, rest):
    """Return the tree of a stock and the rest."""
    return tree_of_names(stock_names_table(stock, rest))
