"""The small sectors, and what lies in the chains of files."""

from filevault.chains import Places, follow, hold_rest_free
from filevault.directory import FILE
from filevault.faults import hold
from filevault.fields import SECTOR_SIZE, all_free, content_of, numbers_of, units_needed

SMALL_SIZE = 64
LEAST_LONG = 4096


def follow_sized(places, table, first, length):
    chain = follow(places, table, first)
    hold(len(chain) == length, "a chain as long as it must be")
    return chain


def read_sized(file, entry, places, table):
    chain = follow_sized(places, table, entry.begins_at, units_needed(entry.size, SECTOR_SIZE))
    return content_of(file, chain)[:entry.size]


def read_small_sectors(file, root, places, table):
    hold(root.size % SMALL_SIZE == 0, "whole small sectors")
    content = read_sized(file, root, places, table)
    return [content[at:at + SMALL_SIZE] for at in range(0, len(content), SMALL_SIZE)]


def read_small_table(file, head, places, table, count):
    chain = follow_sized(places, table, head.small_table_at, head.small_table_length)
    small_table = numbers_of(content_of(file, chain))
    hold(len(small_table) >= count, "a number in the small table for each small sector")
    hold(all_free(small_table[count:]), "FREE for small sectors that there aren't")
    return small_table


def read_small(small_sectors, entry, small_places, small_table):
    content = []
    for number in follow_sized(small_places, small_table, entry.begins_at, units_needed(entry.size, SMALL_SIZE)):
        content.extend(small_sectors[number])
    return content[:entry.size]


# Gives each file's bytes by its entry's number.
def read_contents(file, head, entries, places, table):
    small_sectors = read_small_sectors(file, entries[0], places, table)
    small_places = Places(len(small_sectors))
    small_table = read_small_table(file, head, places, table, len(small_sectors))
    contents = {}
    for number, entry in enumerate(entries):
        if entry is not None and entry.kind == FILE:
            if entry.size < LEAST_LONG:
                contents[number] = read_small(small_sectors, entry, small_places, small_table)
            else:
                contents[number] = read_sized(file, entry, places, table)
    hold_rest_free(small_places, small_table)
    return contents
