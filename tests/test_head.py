"""The head, place by place (point 2)."""

import unittest

from tests.helper import END, FREE, LIST, MARKS, TABLE, Image, StoreCase

IMAGE = Image([("a", b"x" * 70), ("b", b"y" * 5000)], spare=1)
FIXED = [*range(0, 24), *range(26, 44), *range(56, 60)]


class FixedPlaces(StoreCase):
    def test_each_byte_changed(self):
        self.check_store(IMAGE.file)
        for at in FIXED:
            old = IMAGE.file[at]
            for value in (old ^ 1, old ^ 128, old ^ 255, (old + 1) % 256):
                with self.subTest(at=at, value=value):
                    self.check_no_store(IMAGE.changed((at, value, 1)))

    def test_other_numbers(self):
        for at, values in ((26, (0, 2, 4, 65535)), (28, (0, 65279, 65535)), (30, (0, 8, 10, 12)), (32, (0, 5, 7))):
            for value in values:
                with self.subTest(at=at, value=value):
                    self.check_breaks(IMAGE, (at, value, 2))
        for at, values in ((40, (1, FREE)), (56, (0, 64, 512, 4095, 4097, 8192))):
            for value in values:
                with self.subTest(at=at, value=value):
                    self.check_breaks(IMAGE, (at, value))

    def test_highest_byte_first(self):
        for at in (26, 28, 30, 32):
            swapped = int.from_bytes(IMAGE.file[at:at + 2], "big")
            self.check_breaks(IMAGE, (at, swapped, 2))


class Beginnings(StoreCase):
    def check_values(self, at, values):
        for value in values:
            with self.subTest(at=at, value=value):
                self.check_breaks(IMAGE, (at, value))

    def test_how_many_sectors_the_table_has(self):
        self.check_values(44, (0, 2, 3, 109, 110, 128, FREE, 16777216))

    def test_where_the_directory_begins(self):
        self.check_values(48, (*MARKS, IMAGE.count, IMAGE.count + 1, IMAGE.table[0], IMAGE.spare[0],
                               IMAGE.small_table[0], IMAGE.small_stream[0], IMAGE.chains["b"][0]))

    def test_where_the_small_table_begins(self):
        self.check_values(60, (*MARKS, IMAGE.count, IMAGE.table[0], IMAGE.spare[0], IMAGE.directory[0],
                               IMAGE.small_stream[0], IMAGE.chains["b"][-1]))

    def test_how_many_sectors_the_small_table_has(self):
        self.check_values(64, (0, 2, 3, 257, FREE))

    def test_the_first_list_where_there_is_none(self):
        self.check_values(68, (TABLE, LIST, IMAGE.count, *range(IMAGE.count)))
        for value in (END, FREE):
            self.check_keeps(IMAGE, (68, value))

    def test_how_many_lists_there_are(self):
        self.check_values(72, (1, 2, 256, FREE))

    def test_the_names_behind_the_table_s_sectors(self):
        for place in (1, 2, 54, 107, 108):
            self.check_values(76 + 4 * place, (END, TABLE, LIST, 0, IMAGE.spare[0], IMAGE.count, FREE - 255))

    def test_the_table_s_sector(self):
        self.check_values(76, (*MARKS, IMAGE.count, *range(IMAGE.count + 1)[IMAGE.table[0] + 1:]))


class EveryByte(StoreCase):
    """Each byte of the head, the table, the directory and the small table, with its highest bit turned."""

    IMAGE = Image([("ab", b"x" * 70), ("cd", [("e", b"y" * 4096), ("f", b"")])], spare=1, small_spare=1, directories=2)

    def not_looked_at(self):
        image = self.IMAGE
        found = {24, 25, 52, 53, 54, 55}
        for which, used in (("", 22), ("ab", 6), ("cd", 6), ("cd/e", 4), ("cd/f", 4)):
            found.update(range(image.entry_at(which, used), image.entry_at(which, 64)))
            found.update(range(image.entry_at(which, 80), image.entry_at(which, 116)))
        for number in range(5, 8):
            found.update(range(image.entry_at(number), image.entry_at(number, 128)))
            found.remove(image.entry_at(number, 66))
        return found

    def test_every_byte(self):
        image = self.IMAGE
        free = self.not_looked_at()
        places = list(range(512))
        for sector in image.table + image.directory + image.small_table:
            places += range(image.sector_at(sector), image.sector_at(sector) + 512)
        for at in places:
            with self.subTest(at=at):
                check = self.check_store if at in free else self.check_no_store
                check(image.changed((at, image.file[at] ^ 128, 1)))


if __name__ == "__main__":
    unittest.main()
