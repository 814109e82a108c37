"""Lists, the table, and chains of sectors (point 2)."""

import unittest

from tests.helper import END, FREE, LIST, MARKS, SIZE, START, TABLE, Image, StoreCase

LONG = b"y" * 5000


class Lists(StoreCase):
    ONE = Image([("a", LONG)], lists=1, spare=1)
    TWO = Image([("a", LONG)], lists=2, spare=1, order="back")

    def last_place(self, image, k):
        return image.sector_at(image.lists[k]) + 508

    def test_behind_the_last_stands_end_or_free(self):
        for image in (self.ONE, self.TWO):
            for value in (END, FREE):
                self.check_keeps(image, (self.last_place(image, -1), value))
            for value in (TABLE, LIST, image.count, *range(image.count)):
                with self.subTest(value=value):
                    self.check_breaks(image, (self.last_place(image, -1), value))

    def test_each_names_the_next(self):
        for value in (*MARKS, self.TWO.count, self.TWO.lists[0], self.TWO.table[0], self.TWO.spare[0],
                      self.TWO.directory[0]):
            with self.subTest(value=value):
                self.check_breaks(self.TWO, (self.last_place(self.TWO, 0), value))

    def test_a_ring_of_lists(self):
        image = self.TWO
        self.check_breaks(image, (self.last_place(image, 1), image.lists[0]))
        self.check_breaks(image, (self.last_place(image, 1), image.lists[0]), (72, 3))
        self.check_breaks(image, (self.last_place(image, 1), image.lists[0]), (72, FREE))
        self.check_breaks(self.ONE, (self.last_place(self.ONE, 0), self.ONE.lists[0]), (72, 2))

    def test_the_first_as_told(self):
        for value in (*MARKS, self.ONE.count, self.ONE.table[0], self.ONE.spare[0], self.ONE.directory[0]):
            self.check_breaks(self.ONE, (68, value))
        self.check_breaks(self.TWO, (68, self.TWO.lists[1]))

    def test_as_many_as_told(self):
        for image in (self.ONE, self.TWO):
            for count in (0, len(image.lists) - 1, len(image.lists) + 1, FREE):
                with self.subTest(count=count):
                    self.check_breaks(image, (72, count))

    def test_fewer_told_and_the_last_ended_so(self):
        image = self.TWO
        self.check_breaks(image, (72, 1), (self.last_place(image, 0), END))
        self.check_keeps(image, (72, 1), (self.last_place(image, 0), END), (image.table_at(image.lists[1]), FREE))
        self.check_keeps(image, (72, 0), (68, FREE), (image.table_at(image.lists[0]), FREE),
                         (image.table_at(image.lists[1]), FREE))

    def test_the_names_in_a_list_behind_the_table_s_sectors(self):
        for image, k in ((self.ONE, 0), (self.TWO, 0), (self.TWO, 1)):
            for place in (0, 1, 63, 126):
                for value in (END, TABLE, LIST, 0, image.spare[0]):
                    with self.subTest(k=k, place=place, value=value):
                        self.check_breaks(image, (image.sector_at(image.lists[k]) + 4 * place, value))

    def test_the_table_says_list_for_a_list(self):
        for image in (self.ONE, self.TWO):
            for value in (FREE, END, TABLE, image.spare[0], 0):
                with self.subTest(value=value):
                    self.check_breaks(image, (image.table_at(image.lists[-1]), value))

    def test_a_list_that_is_the_table_s_too(self):
        image = Image(lists=1, tables=2)
        own = image.lists[0]
        for value in (TABLE, LIST):
            self.check_breaks(image, (image.named_at(1), own), (image.table_at(own), value),
                              (image.table_at(image.table[1]), FREE))


class Table(StoreCase):
    ONE = Image([("a", LONG)], spare=2)
    THREE = Image([("a", LONG)], tables=3, spare=2, order="mixed")

    def test_as_many_as_told(self):
        for count in (0, 1, 2, 4, 109, FREE):
            with self.subTest(count=count):
                self.check_breaks(self.THREE, (44, count))

    def test_fewer_told_and_named(self):
        image = self.THREE
        self.check_breaks(image, (44, 2), (image.named_at(2), FREE))
        self.check_keeps(image, (44, 2), (image.named_at(2), FREE), (image.table_at(image.table[2]), FREE))

    def test_none_at_all(self):
        self.check_breaks(self.ONE, (44, 0), (76, FREE))

    def test_sectors_that_there_are(self):
        for image, place in ((self.ONE, 0), (self.THREE, 0), (self.THREE, 1), (self.THREE, 2)):
            for value in (*MARKS, image.count, image.count + 1, 2147483648):
                with self.subTest(place=place, value=value):
                    self.check_breaks(image, (image.named_at(place), value))

    def test_a_hole_among_the_names(self):
        image = self.THREE
        self.check_breaks(image, (image.named_at(1), FREE), (image.named_at(3), image.table[1]))
        self.check_breaks(image, (image.named_at(2), FREE), (image.named_at(108), image.table[2]))

    def test_one_sector_named_twice(self):
        image = self.THREE
        self.check_breaks(image, (image.named_at(2), image.table[1]))
        self.check_breaks(image, (image.named_at(2), image.table[1]), (image.table_at(image.table[2]), FREE))
        self.check_breaks(image, (image.named_at(1), image.table[0]), (image.table_at(image.table[1]), FREE))

    def test_the_sectors_one_behind_another(self):
        image = self.THREE
        self.check_breaks(image, (image.named_at(0), image.table[1]), (image.named_at(1), image.table[0]))
        self.check_keeps(image, (image.named_at(1), image.table[2]), (image.named_at(2), image.table[1]))

    def test_table_for_its_sectors(self):
        for image in (self.ONE, self.THREE):
            for sector in image.table:
                for value in (FREE, END, LIST, 0, image.spare[0], image.count):
                    with self.subTest(sector=sector, value=value):
                        self.check_breaks(image, (image.table_at(sector), value))

    def test_free_for_sectors_that_there_are_not(self):
        for image in (self.ONE, self.THREE):
            last = 128 * len(image.table) - 1
            for sector in (image.count, image.count + 1, 127, last // 2 + 1, last):
                for value in (END, TABLE, LIST, 0, image.spare[0], image.count, FREE - 256):
                    with self.subTest(sector=sector, value=value):
                        self.check_breaks(image, (image.table_at(sector), value))

    def test_sectors_in_no_chain_that_are_not_free(self):
        for image in (self.ONE, self.THREE):
            for sector in image.spare:
                for value in (END, TABLE, LIST, sector, 0, image.spare[0], image.directory[0], image.count):
                    with self.subTest(sector=sector, value=value):
                        self.check_breaks(image, (image.table_at(sector), value))

    def test_a_chain_that_nothing_begins(self):
        image = self.ONE
        one, other = image.spare
        self.check_breaks(image, (image.table_at(one), other), (image.table_at(other), END))
        self.check_breaks(image, (image.table_at(one), other), (image.table_at(other), one))

    def test_a_sector_of_the_table_in_a_chain(self):
        image = self.ONE
        self.check_breaks(image, (image.table_at(image.directory[-1]), image.table[0]))
        self.check_breaks(image, (image.table_at(image.directory[-1]), image.table[0]),
                          (image.table_at(image.table[0]), END))


class Chains(StoreCase):
    """Each kind of chain: the directory's, the small table's, the root's, a long file's."""

    IMAGE = Image([("a", b"x" * 3000), ("b", b"y" * 4095), ("c", b"z" * 1500), ("l", LONG), ("m", LONG)],
                  directories=3, small_tables=2, spare=2, order="mixed")

    def chains(self):
        image = self.IMAGE
        return {"directory": image.directory, "small table": image.small_table, "root": image.small_stream,
                "l": image.chains["l"], "m": image.chains["m"]}

    def beginning(self, name):
        image = self.IMAGE
        return {"directory": 48, "small table": 60, "root": image.entry_at(0, START)}.get(name) \
            or image.entry_at(name, START)

    def test_rings(self):
        image = self.IMAGE
        for name, chain in self.chains().items():
            for back in range(len(chain)):
                with self.subTest(name=name, back=back):
                    self.check_breaks(image, (image.table_at(chain[-1]), chain[back]))
            self.check_breaks(image, (image.table_at(chain[0]), chain[0]))

    def test_chains_into_one_another(self):
        image = self.IMAGE
        for name, chain in self.chains().items():
            for other_name, other in self.chains().items():
                if name != other_name:
                    with self.subTest(name=name, other=other_name):
                        for at in (self.beginning(name), image.table_at(chain[0]), image.table_at(chain[-1])):
                            self.check_breaks(image, (at, other[0]))
                            self.check_breaks(image, (at, other[-1]))

    def test_two_files_with_one_chain(self):
        image = self.IMAGE
        unused = [(image.table_at(sector), FREE) for sector in image.chains["m"]]
        self.check_breaks(image, (image.entry_at("m", START), image.chains["l"][0]), *unused)

    def test_two_files_that_share_an_end(self):
        image = self.IMAGE
        one, other = image.chains["l"], image.chains["m"]
        unused = [(image.table_at(sector), FREE) for sector in other[5:]]
        self.check_breaks(image, *unused, (image.table_at(other[4]), one[5]))

    def test_sectors_that_there_are_not(self):
        image = self.IMAGE
        for name, chain in self.chains().items():
            for value in (image.count, image.count + 1, 127, 128, 65536, 2147483648, 4294967291):
                with self.subTest(name=name, value=value):
                    for at in (self.beginning(name), image.table_at(chain[0]), image.table_at(chain[-1])):
                        self.check_breaks(image, (at, value))

    def test_marks_within_a_chain_and_at_its_end(self):
        image = self.IMAGE
        for name, chain in self.chains().items():
            for value in (FREE, TABLE, LIST):
                with self.subTest(name=name, value=value):
                    for at in (self.beginning(name), image.table_at(chain[0]), image.table_at(chain[-1])):
                        self.check_breaks(image, (at, value))
            self.check_breaks(image, (self.beginning(name), END))
            self.check_breaks(image, (image.table_at(chain[0]), END))

    def test_chains_that_run_on_or_skip(self):
        image = self.IMAGE
        for name, chain in self.chains().items():
            more = [(image.table_at(chain[-1]), image.spare[0]), (image.table_at(image.spare[0]), END)]
            skipped = [(image.table_at(chain[-2]), END), (image.table_at(chain[-1]), FREE)]
            with self.subTest(name=name):
                if name != "directory":
                    self.check_breaks(image, *more)
                    self.check_breaks(image, *skipped)
                self.check_breaks(image, (self.beginning(name), chain[1]))
        self.check_keeps(image, (image.table_at(image.directory[-1]), image.spare[0]),
                         (image.table_at(image.spare[0]), END))
        self.check_keeps(image, (image.table_at(image.directory[-2]), END),
                         (image.table_at(image.directory[-1]), FREE))

    def test_the_small_table_runs_on_as_told(self):
        image = self.IMAGE
        more = image.spare[0]
        changes = [(image.table_at(image.small_table[-1]), more), (image.table_at(more), END), (64, 3)]
        all_free = (image.sector_at(more), 256 ** 512 - 1, 512)
        self.check_breaks(image, *changes)
        self.check_keeps(image, *changes, all_free)

    def test_empty_chains_begin_with_end_alone(self):
        image = Image([("a", b""), ("b", b"")], spare=1)
        for at in (60, image.entry_at(0, START), image.entry_at("a", START), image.entry_at("b", START)):
            self.assertEqual(image.get(at), END)
            for value in (FREE, TABLE, LIST, 0, image.spare[0], image.count):
                with self.subTest(at=at, value=value):
                    self.check_breaks(image, (at, value))


class LongFiles(StoreCase):
    def test_chains_just_as_long_as_the_size_needs(self):
        for size, others in ((4096, (4097, 4608, 8192, 4095, 0, 1, 64, FREE)), (4608, (4096, 4609)),
                             (4609, (4608, 5121)), (5120, (4608, 5121)), (4097, (4096, 4609, 4294967295))):
            image = Image([("a", b"x" * size)], spare=1)
            for other in others:
                with self.subTest(size=size, other=other):
                    self.check_breaks(image, (image.entry_at("a", SIZE), other))

    def test_less_than_4096_bytes_in_sectors(self):
        image = Image([("a", b"x" * 4096)], small_spare=64)
        self.check_breaks(image, (image.entry_at("a", SIZE), 4095))

    def test_4096_bytes_in_small_sectors(self):
        image = Image([("a", b"x" * 4095)], spare=8)
        self.check_breaks(image, (image.entry_at("a", SIZE), 4096))


if __name__ == "__main__":
    unittest.main()
