"""Writes stores byte by byte, tells where each thing in them stands, and hands calls to the desk."""

import random
import unittest

from filevault.desk import answers

FREE = 4294967295
END = 4294967294
TABLE = 4294967293
LIST = 4294967292
MARKS = (FREE, END, TABLE, LIST)

BEGIN = [0]
LEFT, RIGHT, BELOW, START, SIZE = 68, 72, 76, 116, 120


class Watched(list):
    """A list that nothing may change, not for a while either."""

    def refuse(self, *given):
        raise AssertionError("what was handed in is changed")

    __setitem__ = __delitem__ = __iadd__ = __imul__ = refuse
    append = extend = insert = remove = pop = clear = sort = reverse = refuse


def opening(file):
    return [1, len(file), *file]


def finding(path):
    numbers = path.encode("latin-1") if isinstance(path, str) else path
    return [2, len(numbers), *numbers]


def item_of(number):
    return [3, number]


def child_of(number, place):
    return [4, number, place]


def reading(number, at=0, most=1048576):
    return [5, number, at, most]


def ask(*calls, bounds=True):
    """The answers to these calls, a list each; bounds: nothing may be handed in that the interface rules out."""
    line = [number for call in calls for number in call]
    if bounds and (len(line) > 30000 or len(calls) > 300):
        raise ValueError("more than the interface takes")
    flat = answers(line)
    found = []
    at = 0
    while at < len(flat):
        found.append(flat[at + 1:at + 1 + flat[at]])
        at += 1 + flat[at]
    return found


def name_key(name):
    return len(name), name.upper()


def units(size, unit):
    return -(-size // unit)


def arranged(count, order):
    numbers = list(range(count))
    if order == "back":
        numbers.reverse()
    if order == "mixed":
        random.Random(count).shuffle(numbers)
    return numbers


class Item:
    def __init__(self, name, kind, content=b""):
        self.name = name
        self.kind = kind
        self.content = content
        self.left = self.right = self.below = FREE
        self.start = 0
        self.size = 0

    def row(self):
        row = bytearray(128)
        row[0:2 * len(self.name)] = self.name.encode("utf-16-le")
        row[64:66] = (2 * len(self.name) + 2).to_bytes(2, "little")
        row[66] = self.kind
        row[67] = 1
        for place, value in ((LEFT, self.left), (RIGHT, self.right), (BELOW, self.below),
                             (START, self.start), (SIZE, self.size)):
            row[place:place + 4] = value.to_bytes(4, "little")
        return row


def nothing_row():
    row = bytearray(128)
    for place in (LEFT, RIGHT, BELOW):
        row[place:place + 4] = FREE.to_bytes(4, "little")
    return row


def hang(items, numbers, shape):
    """Hangs these, which come in order, in a tree; gives what's on top."""
    if not numbers:
        return FREE
    top = {"balanced": len(numbers) // 2, "left": len(numbers) - 1, "right": 0}[shape]
    items[numbers[top]].left = hang(items, numbers[:top], shape)
    items[numbers[top]].right = hang(items, numbers[top + 1:], shape)
    return numbers[top]


def itemized(tree, shape):
    """The entries of a tree, and the number of each by its path."""
    items = [Item("Root Entry", 5)]
    numbers = {"": 0}
    waiting = [(0, "", tree)]
    while waiting:
        parent, path, below = waiting.pop(0)
        own = []
        for name, inside in sorted(below, key=lambda pair: name_key(pair[0])):
            here = path + "/" + name if parent else name
            numbers[here] = len(items)
            own.append(len(items))
            if isinstance(inside, bytes):
                items.append(Item(name, 2, inside))
            else:
                waiting.append((len(items), here, inside))
                items.append(Item(name, 1))
        items[parent].below = hang(items, own, shape)
    return items, numbers


def scattered(items, numbers, total):
    """The same entries with other numbers, out of the names' order, and entries that are nothing between them."""
    places = [0] + [1 + place for place in arranged(total - 1, "mixed")]
    moved = [Item("", 0) for place in range(total)]
    for entry, place in zip(items, places):
        entry.left, entry.right, entry.below = [
            number if number == FREE else places[number] for number in (entry.left, entry.right, entry.below)]
        moved[place] = entry
    return moved, {path: places[number] for path, number in numbers.items()}


class Image:
    """A store's bytes; tree is pairs of a name and either bytes or pairs of that form again."""

    def __init__(self, tree=(), tables=1, lists=0, spare=0, directories=0, small_spare=0, small_tables=0,
                 shape="balanced", order="plain", scatter=False):
        self.items, self.numbers = itemized(tree, shape)
        if scatter:
            total = 4 * max(directories, units(len(self.items), 4))
            self.items, self.numbers = scattered(self.items, self.numbers, total)
        paths = {number: path for path, number in self.numbers.items()}
        self.small_chains = {}
        self.chains = {}
        small = self.pack_small(paths, small_spare, order)
        long = [k for k, item in enumerate(self.items) if item.kind == 2 and len(item.content) >= 4096]
        small_tables = max(small_tables, units(self.small_count, 128))
        counts = [tables, lists, max(directories, units(len(self.items), 4)), small_tables, units(len(small), 512)]
        counts += [units(len(self.items[k].content), 512) for k in long] + [spare]
        self.count = sum(counts)
        numbers = arranged(self.count, order)
        groups = []
        for count in counts:
            groups.append(numbers[:count])
            numbers = numbers[count:]
        self.table, self.lists, self.directory, self.small_table, self.small_stream = groups[:5]
        self.spare = groups[-1]
        self.file = bytearray(512 * (self.count + 1))
        self.write_links()
        self.link(self.directory, bytes())
        self.link(self.small_table, b"".join(value.to_bytes(4, "little") for value in self.small_links)
                  .ljust(512 * small_tables, b"\xff"))
        self.items[0].start = self.link(self.small_stream, bytes(small))
        self.items[0].size = len(small)
        for k, chain in zip(long, groups[5:-1]):
            self.items[k].start = self.link(chain, self.items[k].content)
            self.items[k].size = len(self.items[k].content)
            self.chains[paths[k]] = chain
        self.write_entries()
        self.write_head()

    def pack_small(self, paths, small_spare, order):
        files = [k for k, item in enumerate(self.items) if item.kind == 2 and len(item.content) < 4096]
        self.small_count = sum(units(len(self.items[k].content), 64) for k in files) + small_spare
        numbers = arranged(self.small_count, order)
        self.small_links = [FREE] * self.small_count
        small = bytearray(64 * self.small_count)
        for k in files:
            content = self.items[k].content
            chain = numbers[:units(len(content), 64)]
            numbers = numbers[len(chain):]
            for here, behind in zip(chain, chain[1:] + [END]):
                self.small_links[here] = behind
            for place, number in enumerate(chain):
                part = content[64 * place:64 * place + 64]
                small[64 * number:64 * number + len(part)] = part
            self.items[k].start = chain[0] if chain else END
            self.items[k].size = len(content)
            self.small_chains[paths[k]] = chain
        self.small_spare = numbers
        return small

    def write_links(self):
        for sector in self.table + self.lists:
            self.file[self.sector_at(sector):self.sector_at(sector) + 512] = b"\xff" * 512
        for here, behind in zip(self.lists, self.lists[1:] + [END]):
            self.put(self.sector_at(here) + 508, behind)
        for place, sector in enumerate(self.table):
            self.put(self.named_at(place), sector)
        for sector in self.table:
            self.put(self.table_at(sector), TABLE)
        for sector in self.lists:
            self.put(self.table_at(sector), LIST)

    def link(self, chain, content):
        for here, behind in zip(chain, chain[1:] + [END]):
            self.put(self.table_at(here), behind)
        for place, sector in enumerate(chain):
            part = content[512 * place:512 * place + 512]
            self.file[self.sector_at(sector):self.sector_at(sector) + len(part)] = part
        return chain[0] if chain else END

    def write_entries(self):
        rows = [item.row() for item in self.items]
        rows += [nothing_row()] * (4 * len(self.directory) - len(rows))
        for number, row in enumerate(rows):
            self.file[self.entry_at(number):self.entry_at(number) + 128] = row

    def write_head(self):
        self.file[0:8] = bytes.fromhex("D0CF11E0A1B11AE1")
        for at, value in ((24, 62), (26, 3), (28, 65534), (30, 9), (32, 6)):
            self.put(at, value, 2)
        self.put(44, len(self.table))
        self.put(48, self.directory[0])
        self.put(56, 4096)
        self.put(60, self.small_table[0] if self.small_table else END)
        self.put(64, len(self.small_table))
        self.put(68, self.lists[0] if self.lists else END)
        self.put(72, len(self.lists))
        for place in range(len(self.table), 109):
            self.put(self.named_at(place), FREE)

    def put(self, at, value, width=4):
        self.file[at:at + width] = value.to_bytes(width, "little")

    def get(self, at, width=4):
        return int.from_bytes(self.file[at:at + width], "little")

    def sector_at(self, sector):
        return 512 * (sector + 1)

    def named_at(self, place):
        """Where the table's sector with this place among them is named: in the head, or in a list."""
        if place < 109:
            return 76 + 4 * place
        return self.sector_at(self.lists[(place - 109) // 127]) + 4 * ((place - 109) % 127)

    def table_at(self, sector):
        """Where the table tells what comes behind a sector."""
        if sector // 128 >= len(self.table):
            raise IndexError("the table is too short for this sector")
        return self.sector_at(self.table[sector // 128]) + 4 * (sector % 128)

    def small_at(self, small):
        return self.sector_at(self.small_table[small // 128]) + 4 * (small % 128)

    def entry_at(self, which, place=0):
        """Where an entry's place stands, by the entry's number or its path."""
        number = self.numbers[which] if isinstance(which, str) else which
        return self.sector_at(self.directory[number // 4]) + 128 * (number % 4) + place

    def changed(self, *changes):
        """The file with some places changed, each told as where, what, and how many bytes if not 4."""
        kept = bytes(self.file)
        for change in changes:
            self.put(*change)
        file = bytes(self.file)
        self.file[:] = kept
        return file


class StoreCase(unittest.TestCase):
    bounds = True

    def check_store(self, file):
        self.assertEqual(ask(BEGIN, opening(file), bounds=self.bounds), [[0], [0]])

    def check_no_store(self, file):
        self.assertEqual(ask(BEGIN, opening(file), bounds=self.bounds), [[0], [-1]])

    def check_breaks(self, image, *changes):
        """The image is a store; it is none with these changes."""
        self.check_store(image.file)
        self.check_no_store(image.changed(*changes))

    def check_keeps(self, image, *changes):
        self.check_store(image.changed(*changes))
