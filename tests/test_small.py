"""Small sectors, the small table, the root's size and chain, and small files (point 2)."""

import unittest

from tests.helper import END, FREE, LIST, MARKS, SIZE, START, TABLE, Image, StoreCase


class RootSize(StoreCase):
    def test_a_multiple_of_64(self):
        image = Image([("a", b"x" * 64)], small_spare=1)
        self.assertEqual(image.get(image.entry_at(0, SIZE)), 128)
        for size in (65, 96, 100, 126, 127, 129):
            with self.subTest(size=size):
                self.check_breaks(image, (image.entry_at(0, SIZE), size))

    def test_more_or_fewer_small_sectors_in_the_same_chain(self):
        image = Image([("a", b"x" * 64)], small_spare=1)
        for size in (64, 192, 512):
            self.check_keeps(image, (image.entry_at(0, SIZE), size))

    def test_fewer_small_sectors_than_are_in_use(self):
        image = Image([("a", b"x" * 64), ("b", b"y" * 100)])
        for size in (0, 64, 128):
            self.check_breaks(image, (image.entry_at(0, SIZE), size))

    def test_a_chain_longer_than_the_size_needs(self):
        image = Image([("a", b"x" * 64)], small_spare=8)
        self.assertEqual(len(image.small_stream), 2)
        self.check_keeps(image, (image.entry_at(0, SIZE), 1024))
        for size in (64, 448, 512):
            self.check_breaks(image, (image.entry_at(0, SIZE), size))

    def test_a_chain_shorter_than_the_size_needs(self):
        image = Image([("a", b"x" * 64)], small_spare=7)
        self.assertEqual(len(image.small_stream), 1)
        for size in (576, 1024, 4096, 4294967232):
            self.check_breaks(image, (image.entry_at(0, SIZE), size))

    def test_4096_bytes_and_more_lie_in_sectors_too(self):
        for spare in (63, 64, 65):
            self.check_store(Image([("a", b"x")], small_spare=spare).file)

    def test_size_0_and_a_chain(self):
        image = Image(small_spare=1)
        self.check_breaks(image, (image.entry_at(0, SIZE), 0))
        self.check_keeps(image, (image.entry_at(0, SIZE), 0), (image.entry_at(0, START), END),
                         (image.table_at(image.small_stream[0]), FREE))

    def test_a_size_and_no_chain(self):
        image = Image(small_tables=1)
        self.check_breaks(image, (image.entry_at(0, SIZE), 64))
        image = Image(small_spare=1)
        self.check_breaks(image, (image.entry_at(0, START), END), (image.table_at(image.small_stream[0]), FREE))


class SmallTable(StoreCase):
    def test_as_many_sectors_as_told(self):
        image = Image([("a", b"x" * 100)], small_tables=2)
        for count in (0, 1, 3, FREE):
            self.check_breaks(image, (64, count))

    def test_told_but_not_there(self):
        image = Image()
        for count in (1, 2, FREE):
            self.check_breaks(image, (64, count))

    def test_there_but_not_told(self):
        image = Image(small_tables=1)
        self.check_breaks(image, (64, 0))
        self.check_breaks(image, (60, END), (64, 0))
        self.check_keeps(image, (60, END), (64, 0), (image.table_at(image.small_table[0]), FREE))

    def test_small_sectors_without_a_table(self):
        image = Image(small_spare=3)
        self.check_breaks(image, (60, END), (64, 0), (image.table_at(image.small_table[0]), FREE))

    def test_at_least_as_many_as_small_sectors(self):
        image = Image([("a", b"x")], small_spare=128)
        self.assertEqual((image.small_count, len(image.small_table)), (129, 2))
        second = image.small_table[1]
        self.check_breaks(image, (64, 1), (image.table_at(image.small_table[0]), END), (image.table_at(second), FREE))
        image = Image([("a", b"x")], small_spare=127)
        self.assertEqual((image.small_count, len(image.small_table)), (128, 1))
        self.check_store(image.file)

    def test_free_for_small_sectors_that_there_are_not(self):
        image = Image([("a", b"x" * 100)], small_spare=1, small_tables=2)
        for small in (3, 4, 7, 8, 127, 128, 255):
            for value in (END, TABLE, LIST, 0, 2, 3, FREE - 1):
                with self.subTest(small=small, value=value):
                    self.check_breaks(image, (image.small_at(small), value))

    def test_free_where_there_are_no_small_sectors(self):
        image = Image(small_tables=1)
        for small in (0, 1, 127):
            for value in (END, 0, 1):
                self.check_breaks(image, (image.small_at(small), value))

    def test_small_sectors_in_no_chain_that_are_not_free(self):
        image = Image([("a", b"x" * 100)], small_spare=2)
        for small in image.small_spare:
            for value in (END, TABLE, LIST, small, 0, 1, image.small_count):
                with self.subTest(small=small, value=value):
                    self.check_breaks(image, (image.small_at(small), value))

    def test_the_sectors_one_behind_another(self):
        image = Image([("a", b"x" * 4095), ("b", b"y" * 4095), ("c", b"z" * 4095)], order="mixed")
        self.assertEqual(len(image.small_table), 2)
        self.check_store(image.file)
        one, other = image.small_table
        self.check_no_store(image.changed((60, other), (image.table_at(other), one), (image.table_at(one), END)))


class SmallChains(StoreCase):
    IMAGE = Image([("a", b"x" * 300), ("b", b"y" * 300), ("c", b"")], small_spare=2, order="mixed")

    def test_rings(self):
        image = self.IMAGE
        for chain in (image.small_chains["a"], image.small_chains["b"]):
            for back in chain:
                self.check_breaks(image, (image.small_at(chain[-1]), back))
                self.check_breaks(image, (image.small_at(chain[0]), chain[0]))

    def test_chains_into_one_another(self):
        image = self.IMAGE
        one, other = image.small_chains["a"], image.small_chains["b"]
        for at in (image.entry_at("a", START), image.small_at(one[0]), image.small_at(one[-1])):
            for small in other:
                self.check_breaks(image, (at, small))

    def test_two_files_with_one_chain(self):
        image = self.IMAGE
        unused = [(image.small_at(small), FREE) for small in image.small_chains["b"]]
        self.check_breaks(image, (image.entry_at("b", START), image.small_chains["a"][0]), *unused)

    def test_two_files_that_share_an_end(self):
        image = self.IMAGE
        one, other = image.small_chains["a"], image.small_chains["b"]
        self.check_breaks(image, (image.small_at(other[3]), one[4]), (image.small_at(other[4]), FREE))

    def test_small_sectors_that_there_are_not(self):
        image = self.IMAGE
        chain = image.small_chains["a"]
        for at in (image.entry_at("a", START), image.small_at(chain[0]), image.small_at(chain[-1])):
            for value in (image.small_count, image.small_count + 1, 127, 128, 65536, 2147483648):
                with self.subTest(at=at, value=value):
                    self.check_breaks(image, (at, value))

    def test_marks(self):
        image = self.IMAGE
        chain = image.small_chains["a"]
        for at in (image.entry_at("a", START), image.small_at(chain[0])):
            for value in MARKS:
                self.check_breaks(image, (at, value))
        for value in (FREE, TABLE, LIST):
            self.check_breaks(image, (image.small_at(chain[-1]), value))

    def test_chains_that_run_on_or_skip(self):
        image = self.IMAGE
        chain, more = image.small_chains["a"], image.small_spare[0]
        longer = [(image.small_at(chain[-1]), more), (image.small_at(more), END)]
        shorter = [(image.small_at(chain[-2]), END), (image.small_at(chain[-1]), FREE)]
        later = [(image.entry_at("a", START), chain[1]), (image.small_at(chain[0]), FREE)]
        for changes in (longer, shorter, later):
            self.check_breaks(image, *changes)
        self.check_keeps(image, *longer, (image.entry_at("a", SIZE), 321))
        self.check_keeps(image, *shorter, (image.entry_at("a", SIZE), 256))
        self.check_keeps(image, *later, (image.entry_at("a", SIZE), 193))

    def test_an_empty_file_begins_with_end(self):
        image = self.IMAGE
        for value in (FREE, TABLE, LIST, 0, image.small_spare[0], image.small_count):
            self.check_breaks(image, (image.entry_at("c", START), value))

    def test_an_empty_file_with_a_chain(self):
        image = self.IMAGE
        small = image.small_spare[0]
        self.check_breaks(image, (image.entry_at("c", START), small), (image.small_at(small), END))
        self.check_keeps(image, (image.entry_at("c", START), small), (image.small_at(small), END),
                         (image.entry_at("c", SIZE), 1))

    def test_a_file_with_a_size_and_no_chain(self):
        for size in (1, 64, 4096, FREE):
            self.check_breaks(self.IMAGE, (self.IMAGE.entry_at("c", SIZE), size))

    def test_chains_just_as_long_as_the_size_needs(self):
        for size, others in ((1, (0, 65)), (64, (0, 65)), (65, (64, 129)), (128, (64, 129)), (4032, (4033, 3968)),
                             (4033, (4032,)), (4095, (4032, 4096, 4097))):
            image = Image([("a", b"x" * size)], small_spare=1)
            for other in others:
                with self.subTest(size=size, other=other):
                    self.check_breaks(image, (image.entry_at("a", SIZE), other))


if __name__ == "__main__":
    unittest.main()
