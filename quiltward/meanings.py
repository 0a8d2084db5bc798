"""Texts that mean trees, and merging two changes of a tree."""

from quiltward.errors import TextError
from quiltward.signs import DIGITS, LETTERS, is_word

MOST_DEPTH = 8
BETWEEN = " = "


def is_value(text):
    """Return whether a string may be the value of a name."""
    return text != "" and not text.startswith(" ") and not text.endswith(" ")


def parts_of_line(line):
    """Return the triple of the depth, the name and the value of a line, with None as the value of a tree; or None."""
    bare = line.lstrip(" ")
    spaces = len(line) - len(bare)
    name, sign, value = bare.partition(BETWEEN)
    if spaces > 2 * MOST_DEPTH or spaces % 2 != 0 or not is_word(name, LETTERS + DIGITS, 8):
        return None
    if not sign:
        return spaces // 2, name, None
    return (spaces // 2, name, value) if is_value(value) else None


def tree_of(lines):
    """Return the tree that a list of lines means."""
    # The trees to which the next line may belong, by its depth.
    stack = [{}]
    for at, line in enumerate(lines):
        parts = parts_of_line(line)
        if parts is None or parts[0] >= len(stack) or parts[1] in stack[parts[0]]:
            raise TextError(at)
        depth, name, value = parts
        stack = stack[:depth + 1]
        if value is None:
            stack.append({})
            value = stack[-1]
        stack[depth][name] = value
    return stack[0]


def lines_of_tree(tree, depth):
    """Return the list of the lines of a tree, at a depth."""
    lines, front = [], "  " * depth
    for name in sorted(tree):
        if isinstance(tree[name], dict):
            lines.append(front + name)
            lines.extend(lines_of_tree(tree[name], depth + 1))
        else:
            lines.append(front + name + BETWEEN + tree[name])
    return lines


def copied(value):
    """Return a copy of a tree, or a value as it is."""
    if isinstance(value, dict):
        return {name: copied(value[name]) for name in value}
    return value


class Merge:
    """A merge of two changes of a tree, which keeps the ways at which they clash."""

    def __init__(self):
        self.ways = []

    def merged(self, base, one, other, way):
        """Return the merge of two changes of the tree at a way."""
        tree = {}
        for name in sorted(set(one) | set(other)):
            value = self.merged_value(base.get(name), one.get(name), other.get(name), way + (name,))
            if value is not None:
                tree[name] = value
        return tree

    def merged_value(self, was, mine, theirs, way):
        """Return what the merge has at a way, or None for nothing."""
        if mine == theirs or theirs == was:
            return copied(mine)
        if mine == was:
            return copied(theirs)
        if isinstance(mine, dict) and isinstance(theirs, dict):
            return self.merged(was if isinstance(was, dict) else {}, mine, theirs, way)
        self.ways.append(way)
        return None


def merged_trees(base, one, other):
    """Return the merge of two changes of a tree, or where they clash."""
    merge = Merge()
    tree = merge.merged(base, one, other, ())
    return ("clash", sorted(merge.ways)) if merge.ways else ("tree", tree)


def merged_lines(base, one, other):
    """Return the lines of the merge of two changes of the tree that lines mean, or where they clash."""
    word, told = merged_trees(tree_of(base), tree_of(one), tree_of(other))
    return (word, told) if word == "clash" else ("lines", lines_of_tree(told, 0))
