"""Patches: their form, what they make, and what they need."""

from quiltward.errors import PatchError
from quiltward.signs import DIGITS, LETTERS, is_word

MOST_CHANGES = 12
# How many items a change of each kind has, the word in front among them.
SIZES = {"add": 2, "move": 4, "drop": 3, "lines": 5, "cut": 3, "order": 4, "back": 2}


def is_tuple_of(value, size):
    """Return whether a value is a tuple of so many items."""
    return isinstance(value, tuple) and len(value) == size


def is_within(number, least, most):
    """Return whether a value is an integer within bounds."""
    return isinstance(number, int) and least <= number <= most


def is_label(label):
    """Return whether a triple is a label."""
    if not is_tuple_of(label, 3) or label[0] != "label" or not is_within(label[1], 0, 7):
        return False
    marks = label[2]
    if not isinstance(marks, tuple) or not all(is_within(mark, 0, 5) for mark in marks):
        return False
    return all(marks[k] < marks[k + 1] for k in range(len(marks) - 1))


def is_hand(name):
    """Return whether a value is the name of somebody who records patches."""
    return isinstance(name, str) and is_word(name, LETTERS, 8)


def is_id(name):
    """Return whether a triple is the id of a patch."""
    return is_tuple_of(name, 3) and is_label(name[0]) and is_hand(name[1]) and is_within(name[2], 1, 99999)


def is_path(path):
    """Return whether a tuple of strings is a path."""
    if not isinstance(path, tuple) or not 1 <= len(path) <= 4:
        return False
    return all(isinstance(part, str) and is_word(part, LETTERS + DIGITS, 8) for part in path)


def is_text(text):
    """Return whether a string is a text of at most 40 characters."""
    return isinstance(text, str) and len(text) <= 40 and all(" " <= sign <= "~" for sign in text)


def is_vertex(vertex):
    """Return whether a triple has an id, a place and an index as told."""
    return (is_tuple_of(vertex, 3) and is_id(vertex[0])
            and is_within(vertex[1], 0, MOST_CHANGES - 1) and is_within(vertex[2], 0, 199))


def is_rising(vertices, least, most):
    """Return whether a list has so many vertices, ascending, each once."""
    if not least <= len(vertices) <= most or not all(is_vertex(vertex) for vertex in vertices):
        return False
    return all(vertices[k] < vertices[k + 1] for k in range(len(vertices) - 1))


def is_change(change):
    """Return whether a change is as told, whatever its ids and vertices stand for."""
    word = change[0]
    if not is_tuple_of(change, SIZES.get(word)):
        return False
    if word == "add":
        return is_path(change[1])
    if word == "back":
        return is_id(change[1])
    if not is_vertex(change[1]):
        return False
    if word == "move":
        return is_path(change[2]) and is_rising(change[3], 1, 12)
    if word == "drop":
        return is_rising(change[2], 1, 12)
    if word == "cut":
        return is_rising(change[2], 1, 200)
    if word == "order":
        return is_vertex(change[2]) and is_vertex(change[3]) and change[2] != change[3]
    return is_rising(change[2], 0, 12) and is_rising(change[3], 0, 12) and are_texts(change[4])


def are_texts(texts):
    """Return whether a list has the texts of one change."""
    return 1 <= len(texts) <= 200 and all(is_text(text) for text in texts)


def names_in(change):
    """Return the list of the names in a change."""
    return list(change[-1]) if change[0] in ("move", "drop") else []


def lines_in_change(change):
    """Return the list of the lines in a change, without those that it makes."""
    if change[0] == "lines":
        return change[2] + change[3]
    if change[0] == "cut":
        return list(change[2])
    if change[0] == "order":
        return [change[2], change[3]]
    return []


def marked_vertices(change):
    """Return the list of the pairs of a word, "file", "name" or "line", and a vertex that stands there in a change."""
    if change[0] in ("add", "back"):
        return []
    rows = [("file", change[1])]
    rows = rows + [("name", vertex) for vertex in names_in(change)]
    return rows + [("line", vertex) for vertex in lines_in_change(change)]


def vertex_needs(patch):
    """Return the list of the ids of the vertices in the changes of a patch, but its own, ascending."""
    found = {}
    for change in patch[2]:
        for _, vertex in marked_vertices(change):
            found[vertex[0]] = True
    return sorted([name for name in found if name != patch[1]])


def backs(patch):
    """Return the list of the ids that a patch takes back, but its own, ascending."""
    return sorted({change[1] for change in patch[2] if change[0] == "back" and change[1] != patch[1]})


def needs(patch):
    """Return the list of the ids that a patch needs, ascending."""
    return sorted(set(vertex_needs(patch)) | set(backs(patch)))


def made_by(patch):
    """Return the list of the triples that tell the lines and files that a patch makes, ascending."""
    rows = []
    for place, change in enumerate(patch[2]):
        if change[0] == "add":
            rows.append(((patch[1], place, 0), None, change[1]))
        if change[0] == "lines":
            rows.extend([((patch[1], place, k), change[1], text) for k, text in enumerate(change[4])])
    return rows


def makes(change, word, vertex, file):
    """Return whether a change makes a vertex of its place, as a file, or as a name or a line of the file."""
    if word == "line":
        return change[0] == "lines" and change[1] == file and vertex[2] < len(change[4])
    if vertex[2] != 0:
        return False
    if change[0] == "add":
        return word == "file" or vertex == file
    return word == "name" and change[0] == "move" and change[1] == file


def is_made(patches, patch, place, word, vertex):
    """Return whether a vertex in a change is made as it must be; patches is None if only the patch is looked at."""
    if vertex[0] == patch[1]:
        changes = patch[2][:place]
    elif patches is None:
        return True
    elif vertex[0] in patches:
        changes = patches[vertex[0]][2]
    else:
        return False
    return vertex[1] < len(changes) and makes(changes[vertex[1]], word, vertex, patch[2][place][1])


def is_right_at(patches, patch, place):
    """Return whether the change at a place is as told; patches is None if only the patch is looked at."""
    change = patch[2][place]
    if not is_change(change):
        return False
    if change[0] == "back":
        return change[1] != patch[1] and (patches is None or change[1] in patches)
    return all(is_made(patches, patch, place, word, vertex) for word, vertex in marked_vertices(change))


def wrong_place(patches, patch):
    """Return the index of the first change that is not as told, or None; patches as in is_right_at."""
    for place in range(len(patch[2])):
        if not is_right_at(patches, patch, place):
            return place
    return None


def is_framed(patch):
    """Return whether the id, the number of changes and the note of a patch are as told."""
    return is_id(patch[1]) and 1 <= len(patch[2]) <= MOST_CHANGES and is_text(patch[3])


def is_taken(patches, name):
    """Return whether a set has an id already, or patches of another label than that of the id."""
    # All ids of a set have one label, so one of them tells it.
    first = next(iter(patches), None)
    return first is not None and (first[0] != name[0] or name in patches)


def check_patch(patch):
    """Return None if a patch is well formed; raise PatchError otherwise."""
    if not is_framed(patch):
        raise PatchError(-1)
    place = wrong_place(None, patch)
    if place is not None:
        raise PatchError(place)


def check_fits(patches, patch):
    """Return None if a patch fits a set; raise PatchError otherwise."""
    if not is_framed(patch) or is_taken(patches, patch[1]):
        raise PatchError(-1)
    place = wrong_place(patches, patch)
    if place is not None:
        raise PatchError(place)
