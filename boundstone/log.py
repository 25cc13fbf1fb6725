"""A log: records that a server keeps in a file, one line for each."""

from boundstone.errors import BadText
from boundstone.limits import MOST_LENGTH
from boundstone.texts import decode, encode, is_integer


def line_of(record):
    """Return the line of a record."""
    text = encode(record)
    return str(len(text)) + " " + text + "\n"


def read_lines(text):
    """Return the records of the complete lines at the beginning, and how many characters these have."""
    records = []
    at = 0
    while at < len(text):
        try:
            record, at = _read_line(text, at)
        except BadText:
            break
        records.append(record)
    return records, at


def _read_line(text, at):
    """Return the record of the complete line that begins at this place, and the place after it."""
    space = text.find(" ", at)
    if space < 0:
        raise BadText("no length")
    length = decode(text[at:space])
    if not is_integer(length, 1, MOST_LENGTH):
        raise BadText("no length")
    end = space + 1 + length
    if text[end:end + 1] != "\n":
        raise BadText("the line is not complete")
    return decode(text[space + 1:end]), end + 1


class Log:
    """The records in a file of a disk, which a crash at any operation leaves in order."""

    def __init__(self, disk, name):
        self._disk = disk
        self._name = name
        # A list that replaces the records is written here, so that the old ones stay until it is whole.
        self._fresh = name + ".new"
        self._kept = []
        self._remove_fresh()
        if self._is_there(name):
            text = disk.read(name)
            records, count = read_lines(text)
            self._kept = records
            # Without this, what is appended next would stand behind a line that is not complete.
            if count < len(text):
                self.rewrite(records)

    def records(self):
        """Return the records."""
        return list(self._kept)

    def append(self, record):
        """Add a record, which a crash can take away until the next sync."""
        self._disk.append(self._name, line_of(record))
        self._kept.append(record)

    def sync(self):
        """Make all records durable."""
        if self._is_there(self._name):
            self._disk.sync(self._name)

    def rewrite(self, records):
        """Replace all records by these, so that a crash leaves either the old ones or the new ones."""
        lines = [line_of(record) for record in records]
        if len(lines) == 0:
            lines = [""]
        self._remove_fresh()
        for line in lines:
            self._disk.append(self._fresh, line)
        self._disk.sync(self._fresh)
        self._disk.rename(self._fresh, self._name)
        self._kept = list(records)

    def _is_there(self, name):
        return name in self._disk.names()

    def _remove_fresh(self):
        if self._is_there(self._fresh):
            self._disk.remove(self._fresh)
