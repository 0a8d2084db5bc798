"""The errors of the program."""


class WardError(ValueError):
    """The base class of all errors of the program."""


class TextError(WardError):
    """A text, or lines that mean a tree, are wrong at an index."""

    def __init__(self, at):
        self.at = at


class WrittenError(WardError):
    """Written lines do not fit from the line with an index on."""

    def __init__(self, at):
        self.at = at


class PatchError(WardError):
    """A patch is not as told at a place."""

    def __init__(self, place):
        self.place = place


class NeededError(WardError):
    """A patch cannot be taken out, as those with these ids depend on it."""

    def __init__(self, ids):
        self.ids = ids


class ClashError(WardError):
    """Two sets have different patches with these ids."""

    def __init__(self, ids):
        self.ids = ids


class StepError(WardError):
    """A step is not the next one."""

    def __init__(self, step):
        self.step = step


class MissingError(WardError):
    """Something that is named is not there."""

    def __init__(self, item):
        self.item = item


class BundleError(WardError):
    """A text is not a bundle."""

    def __init__(self, place):
        self.place = place


class CommandError(WardError):
    """A line of a script is not a command."""

    def __init__(self, line):
        self.line = line


class VouchError(WardError):
    """A record of a hand is not as told."""

    def __init__(self, place):
        self.place = place
