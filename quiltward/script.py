"""Scripts of deeds: texts that tell a world and what its sessions do, and the lines that show the answers."""

from quiltward.errors import CommandError
from quiltward.patches import is_hand, is_text
from quiltward.worlds import MOST_RULES, World
from quiltward.written import read_id, read_label, read_path, show_id, show_label, show_path, show_vertex

MOST_TEXTS = 200
# What stands behind the word of each deed; the texts of a "put" stand in lines of their own.
DEEDS = {"put": ("path",), "record": ("note",), "move": ("path", "path", "note"), "back": ("id", "note"),
         "drop": ("path",), "show": ("path",), "whence": ("path",), "differ": ("path",), "revert": (), "update": (),
         "status": (), "paths": (), "log": (), "reclass": ("prefix", "label")}


def read_part(kind, text):
    """Return what a part of a command of some kind tells, or None."""
    if kind == "note":
        return text if is_text(text) else None
    if kind == "id":
        return read_id(text)
    if kind == "label":
        return read_label(text)
    return () if kind == "prefix" and text == "-" else read_path(text)


def lines_in(script):
    """Return the list of the lines of a script."""
    lines = script.split("\n")
    # A newline at the end ends the last line, and begins none.
    return lines[:-1] if lines[-1] == "" else lines


class WorldReader:
    """What the lines up to `start` tell: the rules and the hands of a world."""

    def __init__(self):
        self.rules = []
        self.hands = {}
        self.started = False

    def take(self, line):
        """Take a line; return whether it is a command."""
        words = line.split(" ")
        if words == ["start"]:
            self.started = True
            return True
        if len(words) != 3 or words[0] not in ("rule", "hand"):
            return False
        label = read_label(words[2])
        if label is None:
            return False
        return self.add_rule(words[1], label) if words[0] == "rule" else self.add_hand(words[1], label)

    def add_rule(self, text, label):
        """Add a rule; return whether it may stand here."""
        prefix = read_part("prefix", text)
        if prefix is None or len(self.rules) == MOST_RULES:
            return False
        self.rules.append((prefix, label))
        return True

    def add_hand(self, name, clearance):
        """Add a session; return whether it may stand here."""
        if not is_hand(name) or name in self.hands:
            return False
        self.hands[name] = clearance
        return True


def read_deed(line, hands):
    """Return the pair of the name and the deed that a line tells, without the texts of a "put"; or None."""
    words = line.split(" ")
    if len(words) < 2 or words[0] not in hands or words[1] not in DEEDS:
        return None
    kinds = DEEDS[words[1]]
    # A note has all that is left, so it may have spaces.
    parts = line.split(" ", 1 + len(kinds))
    if len(parts) != 2 + len(kinds) or parts[1] != words[1]:
        return None
    deed = [parts[1]] + [read_part(kind, part) for kind, part in zip(kinds, parts[2:])]
    return None if None in deed else (parts[0], tuple(deed))


def read_texts(lines, put):
    """Return the pair of the texts behind a "put" at an index, and of the index of the line that ends them."""
    texts = []
    for at in range(put + 1, len(lines)):
        line = lines[at]
        if line == ".":
            return texts, at
        if not line.startswith("|") or not is_text(line[1:]) or len(texts) == MOST_TEXTS:
            raise CommandError(at + 1)
        texts.append(line[1:])
    raise CommandError(put + 1)


def read_script(lines):
    """Return the pair of what tells the world of a script, and of the list of the pairs of a name and a deed."""
    told, rows, at = WorldReader(), [], 0
    while at < len(lines):
        line, number = lines[at], at + 1
        row = read_deed(line, told.hands) if told.started else None
        if row is not None:
            if row[1][0] == "put":
                texts, at = read_texts(lines, at)
                row = row[0], row[1] + (texts,)
            rows.append(row)
        elif line != "" and (told.started or not told.take(line)):
            raise CommandError(number)
        at += 1
    return told, rows


def texts_shown(texts):
    """Return the list of the lines that show texts."""
    return [f"|{text}" for text in texts]


def item_shown(word, item):
    """Return the list of the lines that show an item of an answer with a word."""
    if word == "recorded":
        one = "-" if item[1] is None else show_id(item[1])
        return [f"{show_label(item[0])} {one}"]
    if word == "updated":
        return [show_label(item)]
    if word in ("status", "paths"):
        return [f"{show_path(item[0])} {item[1]}"]
    if word == "log":
        return [f"{show_id(item[0])} {item[1]}"]
    if word == "paper":
        path, old, new, texts = item
        return [f"{show_path(path)} {show_label(old)} {show_label(new)} {len(texts)}"] + texts_shown(texts)
    if word == "shown":
        head = "line" if len(item) == 1 else f"conflict {len(item)}"
        return [head] + texts_shown([text for _, text in item])
    if word == "whence":
        return [f"{show_vertex(item[0])} {item[1][0]}"]
    return [" ".join([str(part) for part in item])]


def answer_shown(answer):
    """Return the list of the lines that show an answer."""
    word = answer[0]
    if len(answer) == 1:
        return [word]
    if word == "refused":
        return [f"refused {answer[1]}"]
    lines = [f"{word} {len(answer[1])}"]
    for item in answer[1]:
        lines.extend(item_shown(word, item))
    return lines


def run_script(text):
    """Return the list of the output lines of a script."""
    told, rows = read_script(lines_in(text))
    world = World(told.rules, [(name, told.hands[name]) for name in told.hands])
    lines = []
    for name, deed in rows:
        lines.extend(answer_shown(world.perform(name, deed)))
    return lines
