"""Files that are stores, and lengths that are no store's (point 2)."""

import random
import unittest

from tests.helper import BEGIN, END, FREE, SIZE, Image, StoreCase, ask, finding, opening

SIZES = (0, 1, 63, 64, 65, 127, 128, 129, 511, 512, 513, 4032, 4033, 4095, 4096, 4097, 4607, 4608, 4609, 9000)


def content(size):
    return bytes(k * 7 % 251 for k in range(size))


class Stores(StoreCase):
    def check_found(self, image):
        """It is a store, and each entry is found by its path."""
        calls = [finding(path) for path in image.numbers]
        self.assertEqual(ask(BEGIN, opening(image.file), *calls), [[0], [0]] + [[k] for k in image.numbers.values()])

    def test_the_least_store(self):
        image = Image()
        self.assertEqual(len(image.file), 1536)
        self.check_found(image)

    def test_files_of_many_sizes(self):
        for size in SIZES:
            with self.subTest(size=size):
                self.check_found(Image([("f", content(size))]))
                self.check_found(Image([("f", content(size)), ("g", content(65))], order="mixed"))

    def test_files_of_many_sizes_together(self):
        for order in ("plain", "back", "mixed"):
            tree = [(f"f{size}", content(size)) for size in (0, 1, 64, 65, 4095, 4096, 4609)]
            with self.subTest(order=order):
                self.check_found(Image(tree, order=order, spare=1, small_spare=3))

    def test_folders_in_folders(self):
        tree = [("a", [("a", [("a", []), ("b", b"x")]), ("b", [("a", b"y")])]), ("b", [("a", [])]), ("c", b"")]
        for shape in ("balanced", "left", "right"):
            with self.subTest(shape=shape):
                self.check_found(Image(tree, shape=shape))

    def test_folders_as_deep_as_may_be(self):
        tree = [("f", b"")]
        for depth in range(218):
            tree = [("d", tree)]
        image = Image(tree)
        self.assertEqual(len(image.file), 29184)
        path = "d/" * 218 + "f"
        self.assertEqual(ask(BEGIN, opening(image.file), finding(path)), [[0], [0], [219]])

    def test_trees_as_deep_as_may_be(self):
        tree = [(f"{k:03}", b"") for k in range(215)]
        for shape in ("left", "right", "balanced"):
            with self.subTest(shape=shape):
                self.check_found(Image(tree, shape=shape))

    def test_several_sectors_of_the_table(self):
        for order in ("plain", "back", "mixed"):
            for tables in (2, 3, 20):
                with self.subTest(order=order, tables=tables):
                    self.check_found(Image([("a", content(5000))], tables=tables, order=order))

    def test_lists(self):
        for order in ("plain", "back", "mixed"):
            for lists in (1, 2, 7):
                with self.subTest(order=order, lists=lists):
                    self.check_found(Image([("a", content(5000))], lists=lists, tables=2, order=order))

    def test_free_sectors_and_free_small_sectors(self):
        self.check_found(Image([("a", content(100))], spare=5, small_spare=7, order="mixed"))

    def test_all_small_sectors_free(self):
        self.check_found(Image(small_spare=8))

    def test_no_small_sectors_at_all(self):
        image = Image([("a", content(4096)), ("b", b"")])
        self.assertEqual(image.small_count, 0)
        self.check_found(image)

    def test_a_small_table_without_small_sectors(self):
        self.check_found(Image(small_tables=2))

    def test_a_small_table_of_several_sectors(self):
        self.check_found(Image([("a", content(4000)), ("b", content(4095)), ("c", content(200))], order="mixed"))
        self.check_found(Image([("a", content(10))], small_tables=3, order="back"))

    def test_more_directory_than_entries(self):
        self.check_found(Image([("a", b"x")], directories=4, order="back"))

    def test_the_longest_file_that_can_be_handed_in(self):
        image = Image([("a", content(20000))], spare=14)
        self.assertEqual(len(image.file), 29184)
        self.check_found(image)


class NotLookedAt(StoreCase):
    IMAGE = Image([("ab", content(70)), ("cd", [("e", content(4100))])], spare=1, small_spare=1)

    def check_any_value(self, at, width):
        for value in (0, 1, 127, 128, 255):
            with self.subTest(at=at, value=value):
                self.check_keeps(self.IMAGE, (at, int.from_bytes(bytes([value] * width), "little"), width))

    def test_places_of_the_head(self):
        self.check_any_value(24, 2)
        self.check_any_value(52, 4)

    def test_places_of_entries(self):
        for which in ("", "ab", "cd", "cd/e"):
            self.check_any_value(self.IMAGE.entry_at(which, 80), 36)

    def test_what_lies_behind_a_name_s_end(self):
        for which, used in (("", 22), ("ab", 6), ("cd", 6), ("cd/e", 4)):
            self.check_any_value(self.IMAGE.entry_at(which, used), 64 - used)

    def test_either_value_at_67(self):
        for which in ("", "ab", "cd", "cd/e"):
            for value in (0, 1):
                self.check_keeps(self.IMAGE, (self.IMAGE.entry_at(which, 67), value, 1))

    def test_all_else_of_an_entry_that_is_nothing(self):
        image = Image([("ab", b"")], directories=2)
        for number in range(2, 8):
            for value in (0, 1, 5, 255):
                row = bytearray([value] * 128)
                row[66] = 0
                with self.subTest(number=number, value=value):
                    self.check_keeps(image, (image.entry_at(number), int.from_bytes(row, "little"), 128))

    def test_an_entry_s_row_kept_behind_when_it_is_nothing(self):
        image = Image([("ab", b"")], directories=2)
        row = bytearray(image.file[image.entry_at("ab"):image.entry_at("ab") + 128])
        row[66] = 0
        self.check_keeps(image, (image.entry_at(5), int.from_bytes(row, "little"), 128))

    def test_what_files_and_free_sectors_hold(self):
        self.check_any_value(self.IMAGE.sector_at(self.IMAGE.small_stream[0]), 512)
        self.check_any_value(self.IMAGE.sector_at(self.IMAGE.chains["cd/e"][0]), 512)
        self.check_any_value(self.IMAGE.sector_at(self.IMAGE.chains["cd/e"][-1]), 512)
        self.check_any_value(self.IMAGE.sector_at(self.IMAGE.spare[0]), 512)

    def test_a_size_within_the_same_sectors(self):
        for which, sizes in (("ab", (65, 128)), ("cd/e", (4097, 4608))):
            for size in sizes:
                self.check_keeps(self.IMAGE, (self.IMAGE.entry_at(which, SIZE), size))


class Lengths(StoreCase):
    def test_short_files(self):
        file = Image([("a", b"x")]).file
        for length in (0, 1, 2, 8, 76, 511, 512, 513, 1023, 1024, 1025, 1535):
            with self.subTest(length=length):
                self.check_no_store(file[:length])
                self.check_no_store(bytes(length))
                self.check_no_store(bytes([255] * length))

    def test_lengths_that_are_no_multiple_of_512(self):
        file = Image([("a", b"x")], spare=1).file
        for more in (1, 2, 4, 64, 128, 256, 510, 511):
            with self.subTest(more=more):
                self.check_no_store(file + bytes(more))
                self.check_no_store(file[:-more])

    def test_a_sector_more_or_less(self):
        image = Image([("a", b"x")], spare=1)
        self.check_store(image.file + bytes(512))
        self.check_store(image.file[:-512])
        self.check_no_store(image.file[:-1024])

    def test_a_head_without_sectors(self):
        image = Image()
        self.check_no_store(image.changed((44, 0), (48, END), (76, FREE))[:512])

    def test_other_bytes(self):
        for file in (b"PK" * 600, b"\x00" * 2048, b"\xff" * 2048, b"\xfe\xff\xff\xff" * 512, bytes(range(256)) * 8):
            self.check_no_store(file)
            self.check_no_store(Image().file[:512] + file)


class AnyBytes(StoreCase):
    """Whatever stands in a file, it is a store or it's none: nothing else is answered or raised."""

    IMAGE = Image([("a", content(300)), ("b", [("c", content(4200)), ("d", [])])], lists=1, spare=1, order="mixed")

    def check_answered(self, file):
        self.assertIn(ask(BEGIN, opening(file)), ([[0], [0]], [[0], [-1]]))

    def test_bytes_changed_here_and_there(self):
        chance = random.Random(1)
        for times in (1, 2, 5, 20, 300):
            for attempt in range(100):
                file = bytearray(self.IMAGE.file)
                for change in range(times):
                    file[chance.randrange(len(file))] = chance.randrange(256)
                self.check_answered(file)

    def test_sectors_that_stand_for_others(self):
        for one in range(1, self.IMAGE.count + 1):
            for other in range(self.IMAGE.count + 1):
                file = bytearray(self.IMAGE.file)
                file[512 * one:512 * one + 512] = self.IMAGE.file[512 * other:512 * other + 512]
                self.check_answered(file)

    def test_a_head_with_any_sectors(self):
        chance = random.Random(2)
        for attempt in range(200):
            self.check_answered(self.IMAGE.file[:512] + chance.randbytes(512 * self.IMAGE.count))


class PastTheInterface(StoreCase):
    """The words go on where the interface's bounds end; these hold the program to the words."""

    bounds = False

    def test_lists_that_name_sectors_of_the_table(self):
        for order in ("plain", "back", "mixed"):
            with self.subTest(order=order):
                image = Image([("a", content(4096))], tables=112, lists=1, order=order)
                self.check_store(image.file)
                self.check_no_store(image.changed((image.named_at(110), image.get(image.named_at(111)))))
                self.check_no_store(image.changed((image.named_at(112), image.spare[0] if image.spare else 0)))
                self.check_no_store(image.changed((44, 111)))
                self.check_no_store(image.changed((44, 113)))
                self.check_no_store(image.changed((44, 109)))

    def test_more_sectors_of_the_table_than_names(self):
        image = Image(tables=109)
        self.check_store(image.file)
        self.check_no_store(image.changed((44, 110)))
        self.check_no_store(image.changed((44, 4294967295)))

    def test_the_head_s_names_come_ahead_of_the_lists(self):
        image = Image(tables=260, lists=2, order="mixed", spare=20)
        self.check_store(image.file)
        for place in (109, 236):
            first = image.get(image.named_at(0))
            other = image.get(image.named_at(place))
            self.check_no_store(image.changed((image.named_at(0), other), (image.named_at(place), first)))

    def test_a_table_too_short_for_the_sectors(self):
        image = Image(spare=126)
        self.assertEqual(len(image.file), 129 * 512)
        self.check_store(image.file)
        self.check_no_store(image.file + bytes(512))
        self.check_store(Image(spare=126, tables=2).file)

    def test_the_longest_file_and_one_that_is_longer(self):
        image = Image([("a", b"x")], tables=16, spare=2028)
        self.assertEqual(len(image.file), 1048576)
        self.assertEqual(image.count, 2047)
        self.check_store(image.file)
        longer = Image([("a", b"x")], tables=16, spare=2029)
        self.assertEqual(len(longer.file), 1048576 + 512)
        self.check_no_store(longer.file)


if __name__ == "__main__":
    unittest.main()
