"""A store: a file's bytes held to all that makes one, and the calls on what lies in it."""

from filevault.chains import Places, follow, hold_rest_free
from filevault.contents import read_contents
from filevault.directory import FILE, read_entries
from filevault.faults import NotThere, hold
from filevault.fields import SECTOR_SIZE, content_of
from filevault.head import read_head
from filevault.names import MOST_CHARACTERS, key_of, names_in
from filevault.table import read_table
from filevault.trees import read_trees

MOST_PATH = 4096
MOST_READ = 1048576


class Store:
    def __init__(self, entries, children, contents):
        self.entries = entries
        self.children = children
        self.contents = contents

    def child_alike(self, folder, name):
        key = key_of(name)
        for number in self.children[folder]:
            if self.entries[number].key == key:
                return number
        raise NotThere("a name that there isn't")

    def find(self, path):
        if len(path) > MOST_PATH:
            raise NotThere("a path of more than 4096 bytes")
        number = 0
        for name in names_in(path):
            number = self.child_alike(number, name)
        return number

    # A number below 0 would be taken as one from the list's end.
    def something(self, number):
        if not 0 <= number < len(self.entries) or self.entries[number] is None:
            raise NotThere("an entry that's nothing")
        return self.entries[number]

    def item(self, number):
        entry = self.something(number)
        length = len(entry.name)
        # The root's own size is that of the small sectors, which are no file.
        size = entry.size if entry.kind == FILE else 0
        zeros = [0] * (MOST_CHARACTERS - length)
        return [length, entry.kind, size, len(self.children[number])] + entry.name + zeros

    def child(self, number, place):
        self.something(number)
        below = self.children[number]
        if not 0 <= place < len(below):
            raise NotThere("a place with nothing in it")
        return below[place]

    def read(self, number, at, most):
        if number not in self.contents:
            raise NotThere("an entry that's no file")
        part = self.contents[number][at:at + most] if 1 <= most <= MOST_READ else []
        return [len(part)] + part


def read_store(file):
    hold(len(file) % SECTOR_SIZE == 0 and len(file) >= 2 * SECTOR_SIZE, "a head and whole sectors")
    head = read_head(file)
    places = Places(len(file) // SECTOR_SIZE - 1)
    table = read_table(file, head, places)
    directory = follow(places, table, head.directory_at)
    hold(len(directory) >= 1, "a sector of the directory")
    entries = read_entries(content_of(file, directory))
    children = read_trees(entries)
    contents = read_contents(file, head, entries, places, table)
    hold_rest_free(places, table)
    return Store(entries, children, contents)
