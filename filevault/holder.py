"""The holder of stores: one store or none, and the calls on it."""

from filevault.faults import NothingHeld, NotThere, hold
from filevault.names import names_in
from filevault.store import read_store

MOST_BYTES = 1048576
MOST_PATH = 4096


class Holder:
    def __init__(self):
        self.store = None

    def begin(self):
        self.store = None
        return 0

    def take_file(self, file):
        hold(1 <= len(file) <= MOST_BYTES, "from 1 to 1048576 bytes")
        self.store = read_store(file)
        return 0

    def held(self):
        if self.store is None:
            raise NothingHeld("no store")
        return self.store

    def find(self, path):
        store = self.held()
        if len(path) > MOST_PATH:
            raise NotThere("a path of more than 4096 bytes")
        number = 0
        for name in names_in(path):
            number = store.child_alike(number, name)
        return number
