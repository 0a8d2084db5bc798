"""Checks: what is asked of the content of a set of patches."""

from quiltward.blocks import shown
from quiltward.graphs import file_graph
from quiltward.trees import conflicts, tree


def shown_in(patches, rows):
    """Return a dict from the files of a tree to what is shown of them."""
    table = {}
    for _, files in rows:
        for file in files:
            if file not in table:
                table[file] = shown(file_graph(patches, file))
    return table


def all_texts(items):
    """Return the list of the texts of what is shown."""
    return [text for block in items for _, text in block]


def content(patches):
    """Return the pair of whether a set is clear, and of the texts at each path of its tree."""
    rows = tree(patches)
    table = shown_in(patches, rows)
    clear = not conflicts(patches) and all(len(block) == 1 for items in table.values() for block in items)
    return clear, [(path, [all_texts(table[file]) for file in files]) for path, files in rows]


def texts_at(told, path):
    """Return the list of the lists of texts at a path of a content."""
    for other, texts in told[1]:
        if other == path:
            return texts
    return []


def holds_alone(check, told):
    """Return whether a check that has no other checks in it holds for a content."""
    if check[0] == "clear":
        return told[0]
    rows = texts_at(told, check[1])
    if check[0] == "file":
        return len(rows) == 1
    if check[0] == "line":
        return any(check[2] in texts for texts in rows)
    return sum([len(texts) for texts in rows]) <= check[2]


def parts_of(check):
    """Return the list of the checks in a check, or None if it has none by its kind."""
    if check[0] == "not":
        return [check[1]]
    return list(check[1]) if check[0] in ("and", "or") else None


def joined_parts(word, values):
    """Return whether a check holds whose checks hold as some values tell."""
    if word == "not":
        return not values[0]
    return all(values) if word == "and" else any(values)


def holds(check, told):
    """Return whether a check holds for a content."""
    values, stack = [], [(check, False)]
    # Checks may be nested more deeply than calls may be, so those that wait for their parts stand on a stack.
    while stack:
        part, ready = stack.pop()
        inner = parts_of(part)
        if inner is None:
            values.append(holds_alone(part, told))
        elif ready:
            start = len(values) - len(inner)
            value = joined_parts(part[0], values[start:])
            values = values[:start] + [value]
        else:
            stack.append((part, True))
            stack.extend([(one, False) for one in inner])
    return values[0]


def is_right(patches, ids, check):
    """Return whether the version of a set with the ids of a list is right."""
    return holds(check, content({name: patches[name] for name in ids}))
