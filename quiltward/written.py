"""The written forms of labels, paths, ids, vertices and patches."""

from quiltward.errors import WrittenError
from quiltward.patches import MOST_CHANGES, is_change, is_id, is_label, is_path, is_text, is_vertex
from quiltward.signs import read_number


def show_label(label):
    """Return the written form of a label."""
    marks = "".join([str(mark) for mark in label[2]])
    return f"{label[1]}:{marks}" if marks else str(label[1])


def show_path(path):
    """Return the written form of a path."""
    return "/".join(path)


def show_id(name):
    """Return the written form of an id."""
    return f"{show_label(name[0])}.{name[1]}.{name[2]}"


def show_vertex(vertex):
    """Return the written form of a vertex."""
    return f"{show_id(vertex[0])}.{vertex[1]}.{vertex[2]}"


def show_vertices(vertices):
    """Return the written form of a list of vertices."""
    return ",".join([show_vertex(vertex) for vertex in vertices]) if vertices else "-"


def read_label(text):
    """Return the label that a text is the written form of, or None."""
    level, colon, marks = text.partition(":")
    label = ("label", read_number(level, 7), tuple([read_number(sign, 5) for sign in marks]))
    if colon and not marks:
        return None
    return label if is_label(label) else None


def read_path(text):
    """Return the path that a text is the written form of, or None."""
    path = tuple(text.split("/"))
    return path if is_path(path) else None


def read_id(text):
    """Return the id that a text is the written form of, or None."""
    words = text.split(".")
    if len(words) != 3:
        return None
    name = (read_label(words[0]), words[1], read_number(words[2], 99999))
    return name if is_id(name) else None


def read_vertex(text):
    """Return the vertex that a text is the written form of, or None."""
    words = text.rsplit(".", 2)
    if len(words) != 3:
        return None
    vertex = (read_id(words[0]), read_number(words[1], 11), read_number(words[2], 199))
    return vertex if is_vertex(vertex) else None


def read_vertices(text):
    """Return the list of vertices that a text tells, with None for each part that is the written form of none."""
    if text == "-":
        return []
    return [read_vertex(part) for part in text.split(",")]


def show_change(change):
    """Return the list of the written lines of a change."""
    word = change[0]
    if word == "add":
        return [f"add {show_path(change[1])}"]
    if word == "back":
        return [f"back {show_id(change[1])}"]
    head = f"{word} {show_vertex(change[1])}"
    if word == "move":
        return [f"{head} {show_path(change[2])} {show_vertices(change[3])}"]
    if word == "order":
        return [f"{head} {show_vertex(change[2])} {show_vertex(change[3])}"]
    if word == "lines":
        first = f"{head} {show_vertices(change[2])} {show_vertices(change[3])} {len(change[4])}"
        return [first] + [f"|{text}" for text in change[4]]
    return [f"{head} {show_vertices(change[2])}"]


def show_patch(patch):
    """Return the list of the written lines of a patch."""
    lines = [f"patch {show_id(patch[1])}", f"note {patch[3]}"]
    for change in patch[2]:
        lines.extend(show_change(change))
    return lines + ["end"]


def show_patches(patches):
    """Return the list of the written lines of a list of patches."""
    return [line for patch in patches for line in show_patch(patch)]


def rest_of_line(lines, at, start):
    """Return what is behind the beginning that the line at an index must have."""
    if at >= len(lines) or not lines[at].startswith(start):
        raise WrittenError(at)
    return lines[at][len(start):]


def read_text_line(lines, at, start):
    """Return the text behind the beginning that the line at an index must have."""
    text = rest_of_line(lines, at, start)
    if not is_text(text):
        raise WrittenError(at)
    return text


def change_of(words):
    """Return the change of words of one line, with None for a word that does not fit; or None."""
    word, rest = words[0], words[1:]
    if word == "add" and len(rest) == 1:
        return word, read_path(rest[0])
    if word == "back" and len(rest) == 1:
        return word, read_id(rest[0])
    if word in ("drop", "cut") and len(rest) == 2:
        return word, read_vertex(rest[0]), read_vertices(rest[1])
    if word == "move" and len(rest) == 3:
        return word, read_vertex(rest[0]), read_path(rest[1]), read_vertices(rest[2])
    if word == "order" and len(rest) == 3:
        return word, read_vertex(rest[0]), read_vertex(rest[1]), read_vertex(rest[2])
    if word == "lines" and len(rest) == 4:
        count = read_number(rest[3], 200)
        # The texts stand in lines of their own: empty ones stand in their places until these are read.
        return word, read_vertex(rest[0]), read_vertices(rest[1]), read_vertices(rest[2]), [""] * (count or 0)
    return None


def read_change(lines, at):
    """Return the pair of the change that begins at the line with an index, and of the index of the line behind it."""
    change = change_of(rest_of_line(lines, at, "").split(" "))
    if change is None or not is_change(change):
        raise WrittenError(at)
    if change[0] != "lines":
        return change, at + 1
    behind = at + 1 + len(change[4])
    return change[:4] + ([read_text_line(lines, k, "|") for k in range(at + 1, behind)],), behind


def read_from(lines, at):
    """Return the pair of the patch that begins at the line with an index, and of the index of the line behind it."""
    name = read_id(rest_of_line(lines, at, "patch "))
    if name is None:
        raise WrittenError(at)
    note = read_text_line(lines, at + 1, "note ")
    changes, behind = [], at + 2
    while not changes or rest_of_line(lines, behind, "") != "end":
        if len(changes) == MOST_CHANGES:
            raise WrittenError(behind)
        change, behind = read_change(lines, behind)
        changes.append(change)
    return ("patch", name, changes, note), behind + 1


def read_patch(lines):
    """Return the patch whose written lines are a list of lines."""
    patch, behind = read_from(lines, 0)
    if behind < len(lines):
        raise WrittenError(behind)
    return patch


def read_patches(lines):
    """Return the list of the patches whose written lines are a list of lines."""
    rows, at = [], 0
    while at < len(lines):
        patch, at = read_from(lines, at)
        rows.append(patch)
    return rows
