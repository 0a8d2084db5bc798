"""Labels, and which of them are below others."""

PUBLIC = ("label", 0, ())


def is_below(one, other):
    """Return whether the first label is below the other one."""
    return one[1] <= other[1] and all(mark in other[2] for mark in one[2])


def label_key(label):
    """Return the pair by which labels are ordered."""
    return label[1], label[2]


def sorted_labels(labels):
    """Return a list of labels in order, each once."""
    # All labels begin with the same word, so they are ordered as their keys are.
    return sorted(set(labels))


def joined(one, other):
    """Return the lowest label that both are below."""
    return "label", max(one[1], other[1]), tuple(sorted(set(one[2]) | set(other[2])))


def common(one, other):
    """Return the highest label that is below both."""
    return "label", min(one[1], other[1]), tuple([mark for mark in one[2] if mark in other[2]])
