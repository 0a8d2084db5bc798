"""Tapes, whose power may fail at any character."""

from quiltward.errors import StepError
from quiltward.signs import read_number

HEAD = 1
ENTRY = 2
READY = 3
MOST_HEAD = 999999999999999999
CHECK_START = 7
CHECK_FACTOR = 257
CHECK_MODULUS = 4294967291


def check_number(text):
    """Return the check number of a string."""
    number = CHECK_START
    for sign in text:
        number = (number * CHECK_FACTOR + ord(sign) + 1) % CHECK_MODULUS
    return number


def record_text(kind, text):
    """Return what is written for a record."""
    body = f"{kind} {len(text)}:{text}"
    return f"{body}:{check_number(body)};"


def read_record(data, at):
    """Return the triple of the kind, the text and the end of the record at a place of a string, or None."""
    space = data.find(" ", at)
    colon = data.find(":", space + 1)
    if space < 0 or colon < 0:
        return None
    kind = read_number(data[at:space], READY)
    length = read_number(data[space + 1:colon], len(data))
    if kind is None or kind < HEAD or length is None:
        return None
    behind = colon + 1 + length
    last = data.find(";", behind)
    if data[behind:behind + 1] != ":" or last < 0:
        return None
    if read_number(data[behind + 1:last], CHECK_MODULUS - 1) != check_number(data[at:behind]):
        return None
    return kind, data[colon + 1:behind], last + 1


def read_records(data):
    """Return the pair of the records at the beginning of a string, and of the number of their characters."""
    rows, at = [], 0
    row = read_record(data, at)
    while row is not None:
        rows.append((row[0], row[1]))
        at = row[2]
        row = read_record(data, at)
    return rows, at


def whole_number(rows):
    """Return the number of a whole area with some records, or -1 if the area is not whole."""
    if not rows or rows[0][0] != HEAD or not any(kind == READY for kind, _ in rows[1:]):
        return -1
    number = read_number(rows[0][1], MOST_HEAD)
    return -1 if number is None else number


class Area:
    """An area of a tape: its characters, and how many of them are safe."""

    def __init__(self, data):
        self.data = data
        self.safe = len(data)

    def write(self, text):
        """Put a text behind what stands there; it is not safe yet."""
        self.data += text

    def secure(self):
        """Make all characters safe."""
        self.safe = len(self.data)

    def cut_to(self, size):
        """Keep only so many characters from the beginning."""
        self.data = self.data[:size]
        self.safe = min(self.safe, size)


class Tape:
    """A tape with two areas, of which one is in use, and the other one for compactions."""

    def __init__(self):
        self.areas = [Area(record_text(HEAD, "0") + record_text(READY, "")), Area("")]
        self.used = 0
        self.done = 0

    def in_use(self):
        """Return the area in use."""
        return self.areas[self.used]

    def other(self):
        """Return the area that is not in use."""
        return self.areas[1 - self.used]

    def append(self, text):
        """Append an entry."""
        written = record_text(ENTRY, text)
        self.in_use().write(written)
        if self.done > 0:
            self.other().write(written)

    def sync(self):
        """Make all characters of both areas safe."""
        for area in self.areas:
            area.secure()

    def check_step(self, step):
        """Raise StepError unless so many steps of a compaction were done."""
        if self.done != step:
            raise StepError(self.done)

    def begin(self, texts):
        """Begin a compaction with a list of entries."""
        self.check_step(0)
        head = read_record(self.in_use().data, 0)
        self.other().cut_to(0)
        self.other().write(record_text(HEAD, str(int(head[1]) + 1)))
        for text in texts:
            self.other().write(record_text(ENTRY, text))
        self.done = 1

    def mark(self):
        """Mark what a compaction has written."""
        self.check_step(1)
        self.other().write(record_text(READY, ""))
        self.done = 2

    def switch(self):
        """End a compaction: use what it has written."""
        self.check_step(2)
        self.sync()
        self.in_use().cut_to(0)
        self.used = 1 - self.used
        self.done = 0

    def crash(self, kept):
        """Lose power; of each area, so many characters are kept behind the safe ones."""
        for area, many in zip(self.areas, kept):
            area.cut_to(area.safe + many)
        self.done = 0

    def recover(self):
        """Use the whole area with the greatest number, and return the list of its entries."""
        read = [read_records(area.data) for area in self.areas]
        numbers = [whole_number(rows) for rows, _ in read]
        self.used = 0 if numbers[0] >= numbers[1] else 1
        rows, size = read[self.used]
        self.in_use().cut_to(size)
        self.in_use().secure()
        self.other().cut_to(0)
        self.done = 0
        return [text for kind, text in rows if kind == ENTRY]
