"""Numbers and sectors as a file keeps them, lowest byte first."""

SECTOR_SIZE = 512
FREE = 4294967295
END = 4294967294
TABLE = 4294967293
LIST = 4294967292


def two_bytes(row, at):
    return row[at] + row[at + 1] * 256


def four_bytes(row, at):
    return two_bytes(row, at) + two_bytes(row, at + 2) * 65536


def numbers_of(row):
    return [four_bytes(row, at) for at in range(0, len(row), 4)]


def sector_of(file, number):
    # The head lies ahead of sector 0 and is as long as a sector.
    at = (number + 1) * SECTOR_SIZE
    return file[at:at + SECTOR_SIZE]


def content_of(file, chain):
    content = []
    for number in chain:
        content.extend(sector_of(file, number))
    return content


def all_free(numbers):
    return all([number == FREE for number in numbers])


def units_needed(size, unit):
    return (size + unit - 1) // unit
