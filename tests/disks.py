"""Disks that several tests share."""

from boundstone.files import Disk


class Recorder(Disk):
    """A disk that keeps the operations that it was asked for."""

    def __init__(self):
        Disk.__init__(self)
        self.asked = []

    def append(self, name, text):
        self.asked.append(("append", name, text))
        Disk.append(self, name, text)

    def sync(self, name):
        self.asked.append(("sync", name))
        Disk.sync(self, name)

    def rename(self, old, new):
        self.asked.append(("rename", old, new))
        Disk.rename(self, old, new)

    def remove(self, name):
        self.asked.append(("remove", name))
        Disk.remove(self, name)


def filled(disk, *rows):
    """The disk, with files of these names, durable beginnings and pending characters."""
    for name, durable, waiting in rows:
        disk.append(name, durable)
        disk.sync(name)
        disk.append(name, waiting)
    return disk


def disk_with(*rows):
    return filled(Disk(), *rows)


def recorder_with(*rows):
    disk = filled(Recorder(), *rows)
    disk.asked.clear()
    return disk


def state(disk):
    """The names, texts and numbers of pending characters of all files."""
    return [(name, disk.read(name), disk.pending(name)) for name in disk.names()]
