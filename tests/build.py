"""Things that the tests are made of: labels, ids, patches, random sets, and slow models of what the document says."""

import random

PUBLIC = ("label", 0, ())
SECRET = ("label", 3, (0, 2))


def label(level, *marks):
    return ("label", level, tuple(marks))


def name(hand, number, at=PUBLIC):
    return (at, hand, number)


def patch(one, *changes, note=""):
    return ("patch", one, list(changes), note)


ANN, BOB, EVE = name("ann", 1), name("bob", 1), name("eve", 1)
FILE = (ANN, 0, 0)


def start(*texts, one=ANN, path=("a",)):
    """A patch that adds a file, named (one, 0, 0), with lines (one, 1, k)."""
    rows = [("add", path)]
    if texts:
        rows.append(("lines", (one, 0, 0), [], [], list(texts)))
    return patch(one, *rows, note="start")


def made(patches):
    """The files, and dicts from files to the lists of the names and of the lines that patches make."""
    files, names, lines = [], {}, {}
    for patch in patches:
        for place, change in enumerate(patch[2]):
            vertex = (patch[1], place, 0)
            if change[0] == "add":
                files.append(vertex)
                names.setdefault(vertex, []).append(vertex)
            elif change[0] == "move":
                names.setdefault(change[1], []).append(vertex)
            elif change[0] == "lines":
                lines.setdefault(change[1], []).extend((patch[1], place, k) for k in range(len(change[4])))
    return files, names, lines


def some(rng, rows, least, most):
    """An ascending list of some of the rows."""
    return sorted(rng.sample(rows, min(len(rows), rng.randint(least, most))))


PATHS = [("a",), ("a", "b"), ("a", "b", "c"), ("b",), ("b", "1"), ("c",)]
TEXTS = ["", "x", "y", "|", "end", "note n", "a b", "~"]


def random_change(rng, files, names, lines, ids):
    """A random change by what is there, or None."""
    word = rng.choice(["add", "move", "drop", "lines", "lines", "lines", "cut", "cut", "order", "back"])
    if word == "back":
        return ("back", rng.choice(ids)) if ids else None
    if word == "add" or not files:
        return ("add", rng.choice(PATHS))
    file = rng.choice(files)
    own = lines.get(file, [])
    if word == "move":
        return ("move", file, rng.choice(PATHS), some(rng, names[file], 1, 2))
    if word == "drop":
        return ("drop", file, some(rng, names[file], 1, 2))
    if word == "lines":
        texts = [rng.choice(TEXTS) for _ in range(rng.randint(1, 3))]
        return ("lines", file, some(rng, own, 0, 2), some(rng, own, 0, 2), texts)
    if word == "cut" and own:
        return ("cut", file, some(rng, own, 1, 2))
    if word == "order" and len(own) > 1:
        return ("order", file, *rng.sample(own, 2))
    return None


def random_patch(rng, rows, one):
    """A random patch with an id that fits the set of a list of patches."""
    new = patch(one, note=rng.choice(TEXTS))
    many = rng.randint(1, 4)
    while len(new[2]) < many:
        change = random_change(rng, *made(rows + [new]), [old[1] for old in rows])
        if change is not None:
            new[2].append(change)
    return new


def random_rows(seed, many, at=PUBLIC):
    """A list of random patches, each of which fits the set of those before it."""
    rng = random.Random(seed)
    rows, numbers = [], {}
    for _ in range(many):
        hand = rng.choice(["ann", "bob", "eve"])
        numbers[hand] = numbers.get(hand, 0) + rng.randint(1, 2)
        # What a patch sees is what some of the others have made, and what these need.
        seen = closed(rows, [row[1] for row in rows if rng.random() < 0.8])
        rows.append(random_patch(rng, seen, name(hand, numbers[hand], at)))
    return rows


def slow_needs(patch):
    """The ids in a patch but its own, found by looking at all tuples in it."""
    found = []

    def look(value):
        if isinstance(value, tuple) and len(value) == 3 and isinstance(value[0], tuple) and value[0][0] == "label":
            found.append(value)
        elif isinstance(value, (tuple, list)):
            for item in value:
                look(item)
    look(patch[2])
    return sorted({one for one in found if one != patch[1]})


def closed(rows, ids):
    """Those of the patches that have some ids, and all that these need."""
    table = {row[1]: row for row in rows}
    found = set()
    left = list(ids)
    while left:
        one = left.pop()
        if one not in found:
            found.add(one)
            left.extend(slow_needs(table[one]))
    return [row for row in rows if row[1] in found]


def slow_stands(patches, one):
    """Whether a patch of a set stands, as point 46 says it."""
    takers = [other for other in patches if ("back", one) in patches[other][2]]
    return not any(slow_stands(patches, other) for other in takers)


def slow_standing(patches):
    return {one: True for one in patches if slow_stands(patches, one)}


def slow_counted(patches):
    """The patches that count, as point 46 says it, until nothing changes any more."""
    found = slow_standing(patches)
    while True:
        more = dict(found)
        for one in found:
            kept = patch(one, *[change for change in patches[one][2] if change[0] != "back"])
            more.update((other, True) for other in slow_needs(kept))
        if more == found:
            return found
        found = more
