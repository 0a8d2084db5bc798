"""Sessions, which see and change what stands at labels that their clearance dominates."""

from quiltward.blame import blame
from quiltward.blocks import shown, shown_texts
from quiltward.graphs import file_graph
from quiltward.labels import is_below, sorted_labels
from quiltward.patches import MOST_CHANGES
from quiltward.paths import label_of
from quiltward.repos import files_at, files_below
from quiltward.scripts import steps_between
from quiltward.sets import with_patch
from quiltward.splitting import MOST_OLDS, names_at, other_names, part_of, split
from quiltward.trees import tree

PATH_DEEDS = ("put", "drop", "move", "show", "whence", "differ")


def texts_of(items):
    """Return the list of the texts of what is shown."""
    return [text for block in items for _, text in block]


def refused(reason):
    """Return the answer of a deed that is refused."""
    return "refused", reason


class Session:
    """A session: what somebody with a name and a clearance sees of a repository, and has edited."""

    def __init__(self, repo, name, clearance):
        self.repo = repo
        self.name = name
        self.clearance = clearance
        self.edits = {}
        self.base = {}
        self.take_over([])

    def take_over(self, held):
        """Let the base have what the spaces have, at all labels but those of a list."""
        base = {label: self.base[label] for label in self.base if label in held}
        for label in self.repo.labels():
            patches = self.repo.space(label)
            if patches and label not in held and is_below(label, self.clearance):
                base[label] = patches
        self.base = base

    def label_at(self, path):
        """Return the label of a path."""
        return label_of(self.repo.rules, path)

    def patches_at(self, path):
        """Return the set of the base at the label of a path."""
        return self.base.get(self.label_at(path), {})

    def files_with(self, path):
        """Return the list of the files that have a path in the base, ascending."""
        return dict(tree(self.patches_at(path))).get(path, [])

    def graph_at(self, path):
        """Return the graph of the first file of a path in the base, or None if there is no file."""
        files = self.files_with(path)
        return file_graph(self.patches_at(path), files[0]) if files else None

    def base_texts(self, path):
        """Return the list of the texts of a path in the base, or None if no file has it."""
        graph = self.graph_at(path)
        return None if graph is None else texts_of(shown(graph))

    def texts(self, path):
        """Return the list of the texts of a path in the working copy, or None if it does not have the path."""
        if path not in self.edits:
            return self.base_texts(path)
        return None if self.edits[path] is None else list(self.edits[path])

    def forget(self, paths):
        """Forget the edits of some paths."""
        for path in list(paths):
            self.edits.pop(path, None)

    def perform(self, deed):
        """Perform a deed and return the answer."""
        word = deed[0]
        if word in PATH_DEEDS:
            if not is_below(self.label_at(deed[1]), self.clearance):
                return refused("denied")
            return self.perform_at(deed)
        if word == "record":
            return self.record(deed[1])
        if word == "back":
            return self.take_back(deed[1], deed[2])
        if word == "revert":
            self.edits = {}
            return ("ok",)
        if word == "update":
            return self.catch_up()
        if word == "status":
            return self.status()
        return self.all_paths() if word == "paths" else self.all_notes()

    def perform_at(self, deed):
        """Perform a deed with a path whose label the clearance dominates, and return the answer."""
        word, path = deed[0], deed[1]
        if word == "put":
            self.edits[path] = list(deed[2])
            return ("ok",)
        if word == "drop":
            return self.drop(path)
        if word == "move":
            return self.move(path, deed[2], deed[3])
        if word == "differ":
            return self.differ(path)
        graph = self.graph_at(path)
        if graph is None:
            return refused("none")
        if word == "show":
            return "shown", shown(graph)
        return "whence", blame(self.patches_at(path), self.files_with(path)[0])

    def drop(self, path):
        """Take a path away."""
        if self.texts(path) is None:
            return refused("none")
        self.edits[path] = None
        return ("ok",)

    def put_patch(self, label, changes, note):
        """Put a patch with the next id of the name into the base and into the space; return its id."""
        name = self.repo.next_id(label, self.name)
        patch = ("patch", name, changes, note)
        self.repo.put(patch)
        self.base[label] = with_patch(self.base.get(label, {}), patch)
        return name

    def changes_at(self, label, paths):
        """Return the list of the changes that record the edits of some paths, which have a label."""
        patches = self.base.get(label, {})
        files = files_at(self.repo.rules, label, patches)
        return part_of(patches, files, paths, self.edits, self.repo.next_id(label, self.name))

    def record(self, note):
        """Record the edits, label by label."""
        rows, parts = [], split(self.edits, self.repo.rules)
        for label in parts:
            changes = self.changes_at(label, parts[label])
            if len(changes) > MOST_CHANGES:
                rows.append((label, None))
                continue
            if changes:
                rows.append((label, self.put_patch(label, changes, note)))
            self.forget(parts[label])
        return "recorded", rows

    def move(self, path, other, note):
        """Let the files of a path have another one."""
        label = self.label_at(path)
        if self.label_at(other) != label:
            return refused("label")
        if path in self.edits or other in self.edits:
            return refused("edited")
        files = self.files_with(path)
        if not files:
            return refused("none")
        if self.files_with(other):
            return refused("there")
        patches = self.base[label]
        changes = [("move", file, other, names_at(patches, file, path)[:MOST_OLDS]) for file in files[:MOST_CHANGES]]
        return "recorded", [(label, self.put_patch(label, changes, note))]

    def take_back(self, name, note):
        """Take the patch with an id back."""
        label = name[0]
        if not is_below(label, self.clearance):
            return refused("denied")
        if name not in self.base.get(label, {}):
            return refused("none")
        if label in split(self.edits, self.repo.rules):
            return refused("edited")
        return "recorded", [(label, self.put_patch(label, [("back", name)], note))]

    def catch_up(self):
        """Update the base at all labels that no path of the edits has; tell the others."""
        held = sorted_labels([self.label_at(path) for path in self.edits])
        self.take_over(held)
        return "updated", held

    def status(self):
        """Tell what the edits would change."""
        rows = [(path, self.status_at(path)) for path in sorted(self.edits)]
        return "status", [(path, word) for path, word in rows if word is not None]

    def status_at(self, path):
        """Return the word for what the edit of a path would change, or None if that is nothing."""
        texts, files = self.edits[path], self.files_with(path)
        if not files:
            return None if texts is None else "added"
        if texts is None:
            return "dropped"
        # The texts of a file with a conflict are None here, so no edit has them.
        same = texts == shown_texts(self.graph_at(path))
        if same and len(files) == 1 and not other_names(self.patches_at(path), files[0], path):
            return None
        return "changed"

    def all_paths(self):
        """Tell the paths of the base, with how many files have them."""
        rows = files_below(self.repo.rules, self.base, self.clearance)
        return "paths", [(path, len(rows[path])) for path in sorted(rows)]

    def all_notes(self):
        """Tell the ids and notes of all patches of the base."""
        rows = []
        for label in sorted_labels(self.base):
            patches = self.base[label]
            rows.extend([(name, patches[name][3]) for name in sorted(patches)])
        return "log", rows

    def differ(self, path):
        """Tell the script from the texts of the base to those of the working copy."""
        texts = self.base_texts(path)
        if texts is None and path not in self.edits:
            return refused("none")
        return "differ", steps_between(texts or [], self.texts(path) or [])
