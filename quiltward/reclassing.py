"""Reclassification: rules that are added, and the files that come to other labels by them."""

from quiltward.blocks import shown
from quiltward.graphs import file_graph
from quiltward.labels import is_below, sorted_labels
from quiltward.patches import MOST_CHANGES
from quiltward.paths import begins, label_of
from quiltward.repos import Repo, files_at
from quiltward.sessions import texts_of
from quiltward.splitting import taken_from
from quiltward.trees import tree
from quiltward.wants import in_parts

MOST_TEXTS = 200
NOTE = "reclass"


def labels_under(rules, prefix):
    """Return the list of the label of a prefix, and of those of all rules whose prefix begins with it, in order."""
    return sorted_labels([label_of(rules, prefix)] + [label for other, label in rules if begins(prefix, other)])


def may_reclass(rules, clearance, prefix, label):
    """Return whether a clearance may reclassify, by the labels that it has to dominate."""
    return all(is_below(one, clearance) for one in labels_under(rules, prefix) + [label])


def turned_paths(repo, rules):
    """Return the paper if a repository had some rules."""
    paper = []
    for label in repo.labels():
        patches = repo.space(label)
        rows = files_at(repo.rules, label, patches)
        for path in rows:
            new = label_of(rules, path)
            if new != label:
                paper.append((path, label, new, texts_of(shown(file_graph(patches, rows[path][0])))))
    # Each path has one label, so no two items have the same path.
    return sorted(paper)


def put_changes(repo, label, name, changes):
    """Put changes into the space of a label, in as few patches as they fit into."""
    for part in in_parts(changes, MOST_CHANGES):
        repo.put(("patch", repo.next_id(label, name), part, NOTE))


def take_away(repo, label, name, path):
    """Take all files of a space that have a path from it."""
    for file in dict(tree(repo.space(label))).get(path, []):
        put_changes(repo, label, name, taken_from(repo.space(label), file, path, {}))


def new_changes(first, path, texts):
    """Return the list of the changes that add a file with texts, in patches from the one with an id on."""
    label, hand, number = first
    changes, ups = [("add", path)], []
    for part in in_parts(texts, MOST_TEXTS):
        own = (label, hand, number + len(changes) // MOST_CHANGES)
        place = len(changes) % MOST_CHANGES
        changes.append(("lines", (first, 0, 0), ups, [], part))
        ups = [(own, place, len(part) - 1)]
    return changes


def copy_of_items(paper):
    """Return a copy of the items of a paper, some of which may be without texts."""
    return [(path, old, new, None if texts is None else list(texts)) for path, old, new, texts in paper]


def reclass(repo, name, prefix, label):
    """Add a rule to a repository, and let the turned paths have new files at their new labels; return the paper."""
    rules = repo.rules + [(prefix, label)]
    paper = turned_paths(repo, rules)
    for path, old, new, texts in paper:
        take_away(repo, old, name, path)
        take_away(repo, new, name, path)
        put_changes(repo, new, name, new_changes(repo.next_id(new, name), path, texts))
    repo.rules = rules
    repo.papers = repo.papers + [(name, (prefix, label), copy_of_items(paper))]
    return paper


def releases(papers, clearance):
    """Return the list of the pairs (index of a paper, item) that papers release to a clearance."""
    rows = []
    for at, (_, _, paper) in enumerate(papers):
        for item in copy_of_items(paper):
            if is_below(item[2], clearance) and not is_below(item[1], clearance):
                rows.append((at, item))
    return rows


def held_spaces(repo):
    """Return a dict from the labels of a repository to their sets, but for empty ones."""
    return {label: repo.spaces[label] for label in repo.labels() if repo.spaces[label]}


def paper_right(before, after, name, prefix, label, paper):
    """Return whether reclassifying leads from one repository to another one with exactly a paper."""
    repo = copy_of(before)
    if reclass(repo, name, prefix, label) != paper:
        return False
    return repo.rules == after.rules and held_spaces(repo) == held_spaces(after)


def copy_of(repo):
    """Return a copy of a repository."""
    other = Repo(repo.rules)
    other.spaces = {label: repo.space(label) for label in repo.spaces}
    other.papers = [(name, rule, copy_of_items(paper)) for name, rule, paper in repo.papers]
    return other
