"""A disk with files of text, which can crash in the middle of the work."""

from boundstone.errors import DiskCrashed, DiskError

MOST_NAME = 20


def is_name(value):
    """Tell whether any value is a name of a file."""
    if not isinstance(value, str) or not 1 <= len(value) <= MOST_NAME:
        return False
    for character in value:
        if character != "." and not "a" <= character <= "z":
            return False
    return True


class Disk:
    """Named files, each with a durable beginning and pending characters after it."""

    def __init__(self):
        # From a name to the durable and the pending characters of the file.
        self._files = {}
        self._left = None
        self._crashed = False

    def names(self):
        """Return the names of all files in ascending order."""
        return sorted(self._files)

    def read(self, name):
        """Return the text of a file, pending characters included."""
        self._check_file(name)
        durable, waiting = self._files[name]
        return durable + waiting

    def append(self, name, text):
        """Add pending characters to a file, which is created if there is none."""
        self._check_up()
        if not is_name(name) or not isinstance(text, str):
            raise DiskError("not a name, or not a string")
        self._operate()
        durable, waiting = self._files.get(name, ("", ""))
        self._files[name] = (durable, waiting + text)

    def sync(self, name):
        """Make all characters of a file durable."""
        self._check_file(name)
        self._operate()
        durable, waiting = self._files[name]
        self._files[name] = (durable + waiting, "")

    def remove(self, name):
        """Remove a file."""
        self._check_file(name)
        self._operate()
        del self._files[name]

    def rename(self, old, new):
        """Give a file another name, in place of a file that has it."""
        self._check_file(old)
        if not is_name(new):
            raise DiskError("not a name")
        self._operate()
        # Taken out before it is put back, so that its own name is a new name like any other.
        parts = self._files.pop(old)
        self._files[new] = parts

    def pending(self, name):
        """Return the number of pending characters of a file."""
        self._check_file(name)
        return len(self._files[name][1])

    def arm(self, count):
        """Let this many operations pass, and crash at the one after them."""
        self._left = count

    def crash(self, keeps):
        """Keep a beginning of the pending characters of each file, and lose the rest."""
        at = 0
        for name in self.names():
            durable, waiting = self._files[name]
            if waiting != "":
                kept = 0
                if at < len(keeps):
                    kept = max(0, keeps[at])
                self._files[name] = (durable + waiting[:kept], "")
                at = at + 1
        self._left = None
        self._crashed = False

    def _check_up(self):
        if self._crashed:
            raise DiskCrashed("the disk has crashed")

    def _check_file(self, name):
        self._check_up()
        if not is_name(name) or name not in self._files:
            raise DiskError("no file with this name")

    def _operate(self):
        """Count an operation, or crash instead of it."""
        if self._left is None:
            return
        if self._left == 0:
            self._crashed = True
            raise DiskCrashed("the disk crashes now")
        self._left = self._left - 1
