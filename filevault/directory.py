"""The directory's entries, each by itself."""

from filevault.faults import hold
from filevault.fields import FREE, four_bytes
from filevault.names import key_of, read_name

ENTRY_SIZE = 128
NOTHING = 0
FOLDER = 1
FILE = 2
ROOT = 5


class Entry:
    def __init__(self, row):
        self.name = read_name(row)
        self.key = key_of(self.name)
        self.kind = row[66]
        self.left = four_bytes(row, 68)
        self.right = four_bytes(row, 72)
        self.first_below = four_bytes(row, 76)
        self.begins_at = four_bytes(row, 116)
        self.size = four_bytes(row, 120)


def hold_kind(entry):
    if entry.kind == FOLDER:
        hold(entry.begins_at == 0 and entry.size == 0, "a folder that begins at 0 and is 0 long")
    if entry.kind == FILE:
        hold(entry.first_below == FREE, "nothing below a file")
    if entry.kind == ROOT:
        hold(entry.left == FREE and entry.right == FREE, "nothing left or right of the root")


# Gives None for an entry that's nothing, of which nothing else may be looked at.
def read_entry(row, number):
    kind = row[66]
    if number == 0:
        hold(kind == ROOT, "the root as entry 0")
    else:
        hold(kind in (NOTHING, FOLDER, FILE), "nothing, a folder or a file behind entry 0")
    if kind == NOTHING:
        return None
    hold(row[67] in (0, 1), "0 or 1 at 67")
    hold(four_bytes(row, 124) == 0, "0 at 124")
    entry = Entry(row)
    hold_kind(entry)
    return entry


def read_entries(content):
    entries = []
    for at in range(0, len(content), ENTRY_SIZE):
        entries.append(read_entry(content[at:at + ENTRY_SIZE], len(entries)))
    return entries
