"""The holder of stores: one store or none."""

from filevault.faults import NothingHeld, hold
from filevault.store import read_store

MOST_BYTES = 1048576


class Holder:
    def __init__(self):
        self.store = None

    def begin(self):
        self.store = None
        return 0

    def take_file(self, file):
        hold(1 <= len(file) <= MOST_BYTES, "from 1 to 1048576 bytes")
        self.store = read_store(file)
        return 0

    def held(self):
        if self.store is None:
            raise NothingHeld("no store")
        return self.store
