"""The files of a set, their names, and the tree with its conflicts."""

from quiltward.blame import live_lines
from quiltward.paths import begins
from quiltward.sets import standing


def standing_changes(patches):
    """Return the list of the pairs of a vertex and the change that makes it, of all patches that stand, ascending."""
    rows = []
    for name in sorted(standing(patches)):
        rows.extend([((name, place, 0), change) for place, change in enumerate(patches[name][2])])
    return rows


def files_of(patches):
    """Return the list of the files of a set, ascending."""
    return [vertex for vertex, change in standing_changes(patches) if change[0] == "add"]


def replaced_names(rows):
    """Return a dict with the names that changes have in their lists of elder names as keys, and True."""
    return {old: True for _, change in rows if change[0] in ("move", "drop") for old in change[-1]}


def made_names(rows):
    """Return the list of the triples (file, path, name) of the names that changes make."""
    found = []
    for vertex, change in rows:
        if change[0] == "add":
            found.append((vertex, change[1], vertex))
        if change[0] == "move":
            found.append((change[1], change[2], vertex))
    return found


def table_of_names(files, triples, replaced):
    """Return a dict from files to the lists of the pairs of those names of them that nothing has replaced."""
    table = {file: [] for file in files}
    for file, path, name in triples:
        # A file may have a name that stands although the patch that adds the file was taken back.
        if file in table and name not in replaced:
            table[file].append((path, name))
    return {file: sorted(table[file]) for file in table}


def names_table(patches):
    """Return a dict from the files of a set, ascending, to the lists of the pairs of their names."""
    rows = standing_changes(patches)
    files = [vertex for vertex, change in rows if change[0] == "add"]
    return table_of_names(files, made_names(rows), replaced_names(rows))


def names(patches, file):
    """Return the list of the pairs (path, name) of the names of a file that count, ascending."""
    return names_table(patches)[file]


def tree_of_names(table):
    """Return the tree for a dict from files, ascending, to the pairs of their names."""
    paths = {}
    for file in table:
        for path in sorted({pair[0] for pair in table[file]}):
            paths.setdefault(path, []).append(file)
    return [(path, paths[path]) for path in sorted(paths)]


def tree(patches):
    """Return the list of the pairs (path, list of the files), ascending."""
    return tree_of_names(names_table(patches))


def inside(rows, at):
    """Return the list of the other paths of a tree that the path at an index begins, ascending."""
    path = rows[at][0]
    end = at + 1
    # The paths that a path begins stand right behind it.
    while end < len(rows) and begins(path, rows[end][0]):
        end += 1
    return [other for other, _ in rows[at + 1:end]]


def path_conflicts(rows):
    """Return the list of the conflicts of the paths of a tree."""
    found = []
    for at, (path, files) in enumerate(rows):
        if len(files) > 1:
            found.append(("path", path, list(files)))
        paths = inside(rows, at)
        if paths:
            found.append(("inside", path, paths))
    return found


def file_conflicts(patches, table):
    """Return the list of the conflicts of the files of a set, whose names a dict tells."""
    found = []
    for file in table:
        if len(table[file]) > 1:
            found.append(("names", file, list(table[file])))
        lines = live_lines(patches, file) if not table[file] else []
        if lines:
            found.append(("nameless", file, lines))
    return found


def conflicts(patches):
    """Return the list of the conflicts of the tree of a set."""
    table = names_table(patches)
    return path_conflicts(tree_of_names(table)) + file_conflicts(patches, table)


def clear_tree(patches):
    """Return the list of the pairs (path, file) for the files that are clear, ascending."""
    table = names_table(patches)
    rows = tree_of_names(table)
    held = dict(rows)
    doubtful = {file: True for file in table if len(table[file]) > 1}
    for word, path, found in path_conflicts(rows):
        for file in held[path]:
            doubtful[file] = True
        if word == "inside":
            for other in found:
                for file in held[other]:
                    doubtful[file] = True
    return [(path, file) for path, files in rows for file in files if file not in doubtful]
