"""The head: what must stand in it, and what it tells of the rest."""

from filevault.faults import hold
from filevault.fields import SECTOR_SIZE, four_bytes, numbers_of, two_bytes

MARK = (208, 207, 17, 224, 161, 177, 26, 225)


class Head:
    def __init__(self, file):
        self.table_length = four_bytes(file, 44)
        self.directory_at = four_bytes(file, 48)
        self.small_table_at = four_bytes(file, 60)
        self.small_table_length = four_bytes(file, 64)
        self.first_list = four_bytes(file, 68)
        self.list_count = four_bytes(file, 72)
        self.named = numbers_of(file[76:SECTOR_SIZE])


def hold_fixed_places(file):
    hold(tuple(file[0:8]) == MARK, "the mark at 0")
    hold(not any(file[8:24]), "zeros at 8")
    hold(two_bytes(file, 26) == 3, "3 at 26")
    hold(two_bytes(file, 28) == 65534, "65534 at 28")
    hold(two_bytes(file, 30) == 9, "9 at 30")
    hold(two_bytes(file, 32) == 6, "6 at 32")
    hold(not any(file[34:44]), "zeros at 34 and at 40")
    hold(four_bytes(file, 56) == 4096, "4096 at 56")


def read_head(file):
    hold_fixed_places(file)
    return Head(file)
