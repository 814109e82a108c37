"""The lists that name the table's sectors, and the table that chains the file's sectors."""

from filevault.faults import hold
from filevault.fields import END, FREE, LIST, TABLE, all_free, content_of, numbers_of, sector_of


def read_lists(file, head, places):
    lists = []
    number = head.first_list
    while len(lists) < head.list_count:
        places.take(number)
        lists.append(number)
        number = numbers_of(sector_of(file, number))[-1]
    hold(number in (END, FREE), "no list behind the last")
    return lists


def read_named(file, head, lists):
    named = list(head.named)
    for number in lists:
        named.extend(numbers_of(sector_of(file, number))[:-1])
    return named


def hold_named(named, length):
    hold(length <= len(named), "a name for each sector of the table")
    hold(all_free(named[length:]), "FREE behind the table's sectors")


def hold_own_sectors(table, sectors, lists):
    for number in sectors:
        hold(table[number] == TABLE, "TABLE for a sector of the table")
    for number in lists:
        hold(table[number] == LIST, "LIST for a list")


def read_table(file, head, places):
    lists = read_lists(file, head, places)
    named = read_named(file, head, lists)
    hold_named(named, head.table_length)
    sectors = named[:head.table_length]
    for number in sectors:
        places.take(number)
    table = numbers_of(content_of(file, sectors))
    count = len(places.taken)
    hold(len(table) >= count, "a number in the table for each sector")
    hold(all_free(table[count:]), "FREE for sectors that there aren't")
    hold_own_sectors(table, sectors, lists)
    return table
