"""The small sectors, and the chains in which files lie."""

from filevault.chains import Places, follow, hold_rest_free
from filevault.directory import FILE
from filevault.faults import hold
from filevault.fields import SECTOR_SIZE, all_free, content_of, numbers_of, units_needed

SMALL_SIZE = 64
LEAST_LONG = 4096


def follow_sized(places, table, first, length):
    chain = follow(places, table, first)
    hold(len(chain) == length, "a chain as long as it must be")
    return chain


def hold_small_sectors(root, places, table):
    hold(root.size % SMALL_SIZE == 0, "whole small sectors")
    follow_sized(places, table, root.begins_at, units_needed(root.size, SECTOR_SIZE))


def read_small_table(file, head, places, table, count):
    chain = follow_sized(places, table, head.small_table_at, head.small_table_length)
    small_table = numbers_of(content_of(file, chain))
    hold(len(small_table) >= count, "a number in the small table for each small sector")
    hold(all_free(small_table[count:]), "FREE for small sectors that there aren't")
    return small_table


def hold_contents(file, head, entries, places, table):
    hold_small_sectors(entries[0], places, table)
    small_places = Places(entries[0].size // SMALL_SIZE)
    small_table = read_small_table(file, head, places, table, len(small_places.taken))
    for entry in entries:
        if entry is not None and entry.kind == FILE:
            if entry.size < LEAST_LONG:
                follow_sized(small_places, small_table, entry.begins_at, units_needed(entry.size, SMALL_SIZE))
            else:
                follow_sized(places, table, entry.begins_at, units_needed(entry.size, SECTOR_SIZE))
    hold_rest_free(small_places, small_table)
