"""Bundles: texts that carry patches of one label."""

from quiltward.errors import BundleError, ClashError, WrittenError
from quiltward.patches import check_fits, needs
from quiltward.sets import clashes, closure, order_along, order_of
from quiltward.tapes import check_number
from quiltward.written import read_label, read_patches, show_label, show_patches


def head_line(label, rows):
    """Return the first line of a bundle with a list of patches."""
    return f"bundle {show_label(label)} {len(rows)}"


def bundle_text(label, rows):
    """Return the bundle with a list of patches, which are in the order of a bundle."""
    body = "\n".join([head_line(label, rows)] + show_patches(rows)) + "\n"
    return f"{body}sum {check_number(body)}"


def make_bundle(label, patches, names):
    """Return the bundle with the patches of a list of ids of a set, and with all that they need."""
    part = closure(patches, names)
    return bundle_text(label, [part[name] for name in order_of(part)])


def label_in(line):
    """Return the label that the first line of a bundle tells."""
    words = line.split(" ")
    label = read_label(words[1]) if len(words) == 3 and words[0] == "bundle" else None
    if label is None:
        raise BundleError(0)
    return label


def patches_in(lines):
    """Return the list of the patches that the lines behind the first one tell."""
    try:
        return read_patches(lines)
    except WrittenError as error:
        raise BundleError(error.at + 1)


def wrong_row(label, rows):
    """Return the index of the first patch that a bundle with these patches does not have there, or None."""
    inside = {row[1]: True for row in rows}
    # What the patches need and the bundle does not carry has no part in its order.
    order = order_along({row[1]: [name for name in needs(row) if name in inside] for row in rows})
    for at, row in enumerate(rows):
        if row[1][0] != label or at >= len(order) or row[1] != order[at]:
            return at
    return None


def read_bundle(text):
    """Return the pair of the label and the list of the patches of a bundle."""
    lines = text.split("\n")
    label = label_in(lines[0])
    rows = patches_in(lines[1:-1])
    if lines[0] != head_line(label, rows):
        raise BundleError(0)
    at = wrong_row(label, rows)
    if at is not None:
        raise BundleError(1 + len(show_patches(rows[:at])))
    # Each bundle has one text, so this also finds numbers that are not written as they should be.
    if text != bundle_text(label, rows):
        raise BundleError(len(lines) - 1)
    return label, rows


def take_bundle(patches, text):
    """Return the set with the patches of a bundle."""
    rows = read_bundle(text)[1]
    ids = clashes(patches, {row[1]: row for row in rows})
    if ids:
        raise ClashError(ids)
    taken = {name: patches[name] for name in patches}
    for row in rows:
        if row[1] not in taken:
            check_fits(taken, row)
            taken[row[1]] = row
    return taken
