"""A store: a file's bytes held to all that makes one."""

from filevault.chains import Places, follow, hold_rest_free
from filevault.contents import hold_contents
from filevault.directory import read_entries
from filevault.faults import NotThere, hold
from filevault.fields import SECTOR_SIZE, content_of
from filevault.head import read_head
from filevault.names import key_of
from filevault.table import read_table
from filevault.trees import read_trees


class Store:
    def __init__(self, entries, children):
        self.entries = entries
        self.children = children

    def child_alike(self, folder, name):
        key = key_of(name)
        for number in self.children[folder]:
            if self.entries[number].key == key:
                return number
        raise NotThere("a name that there isn't")


def read_store(file):
    hold(len(file) % SECTOR_SIZE == 0 and len(file) >= 2 * SECTOR_SIZE, "a head and whole sectors")
    head = read_head(file)
    places = Places(len(file) // SECTOR_SIZE - 1)
    table = read_table(file, head, places)
    directory = follow(places, table, head.directory_at)
    hold(len(directory) >= 1, "a sector of the directory")
    entries = read_entries(content_of(file, directory))
    children = read_trees(entries)
    hold_contents(file, head, entries, places, table)
    hold_rest_free(places, table)
    return Store(entries, children)
