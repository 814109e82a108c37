"""item: what an entry is (point 4)."""

import unittest

from tests.helper import BEGIN, FREE, SIZE, Image, StoreCase, ask, item_of, opening

LONG_NAME = "Thirty-one characters, not more"
TREE = [("a", b"one"), (LONG_NAME, b"x" * 5000), ("Empty", b""), ("bare", []),
        ("Folder", [("b", b"two" * 100), ("Sub", [("c", b""), ("d", [])]), ("e", b"4" * 4096)])]
IMAGE = Image(TREE)
OUTSIDE = (-1, -2, -3, -4, -5, -8, -12, -13, -2147483648, 12, 13, 16, 255, 65536, 2147483647)


def told(name, kind, size, below):
    return [len(name), kind, size, below, *name.encode("ascii"), *[0] * (31 - len(name))]


class ItemOf(StoreCase):
    def items(self, *numbers, image=IMAGE):
        answered = ask(BEGIN, opening(image.file), *[item_of(number) for number in numbers])
        self.assertEqual(answered[:2], [[0], [0]])
        return answered[2:]

    def check_item(self, image, path, name, kind, size, below):
        self.assertEqual(self.items(image.numbers[path], image=image), [told(name, kind, size, below)])

    def test_the_answer_number_by_number(self):
        self.assertEqual(self.items(IMAGE.numbers["a"]), [[1, 2, 3, 0, 97] + [0] * 30])
        self.assertEqual(self.items(0), [[10, 5, 0, 5, 82, 111, 111, 116, 32, 69, 110, 116, 114, 121] + [0] * 21])

    def test_the_root(self):
        self.check_item(IMAGE, "", "Root Entry", 5, 0, 5)

    def test_the_root_of_a_store_with_nothing_in_it(self):
        self.check_item(Image(), "", "Root Entry", 5, 0, 0)

    def test_the_size_of_the_small_sectors_is_not_told_as_the_root_s(self):
        self.assertGreater(IMAGE.get(IMAGE.entry_at(0, SIZE)), 0)
        self.assertEqual(self.items(0)[0][2], 0)

    def test_the_root_may_be_called_otherwise(self):
        for name in ("R", "r" * 31):
            image = Image(TREE)
            image.items[0].name = name
            image.write_entries()
            self.check_item(image, "", name, 5, 0, 5)

    def test_folders(self):
        self.check_item(IMAGE, "Folder", "Folder", 1, 0, 3)
        self.check_item(IMAGE, "Folder/Sub", "Sub", 1, 0, 2)

    def test_folders_with_nothing_below(self):
        self.check_item(IMAGE, "bare", "bare", 1, 0, 0)
        self.check_item(IMAGE, "Folder/Sub/d", "d", 1, 0, 0)

    def test_small_files(self):
        self.check_item(IMAGE, "a", "a", 2, 3, 0)
        self.check_item(IMAGE, "Folder/b", "b", 2, 300, 0)

    def test_long_files(self):
        self.check_item(IMAGE, LONG_NAME, LONG_NAME, 2, 5000, 0)
        self.check_item(IMAGE, "Folder/e", "e", 2, 4096, 0)

    def test_empty_files(self):
        self.check_item(IMAGE, "Empty", "Empty", 2, 0, 0)
        self.check_item(IMAGE, "Folder/Sub/c", "c", 2, 0, 0)

    def test_sizes_at_the_edges_of_sectors(self):
        for size in (0, 1, 63, 64, 65, 127, 128, 129, 511, 512, 513, 4032, 4095, 4096, 4097, 4608, 4609, 20000):
            self.check_item(Image([("f", b"x" * size)]), "f", "f", 2, size, 0)

    def test_names_of_each_length(self):
        for length in range(1, 32):
            name = "abcdefghijklmnopqrstuvwxyz01234"[:length]
            image = Image([(name, b"12"), ("folder", [(name, [])])])
            self.check_item(image, name, name, 2, 2, 0)
            self.check_item(image, "folder/" + name, name, 1, 0, 0)

    def test_names_as_they_stand_and_not_in_great_letters(self):
        signs = "".join(chr(value) for value in range(32, 127) if chr(value) not in "/\\:!")
        for at in range(0, len(signs), 31):
            name = signs[at:at + 31]
            self.check_item(Image([(name, b"")]), name, name, 2, 0, 0)

    def test_zeros_behind_the_name_whatever_stands_there(self):
        image = Image([("name", b"1")])
        at = image.entry_at("name")
        self.assertEqual(ask(BEGIN, opening(image.changed((at + 10, 0x4142434445464748, 54))), item_of(1)),
                         [[0], [0], told("name", 2, 1, 0)])

    def test_only_what_hangs_right_below_is_counted(self):
        image = Image([("f", [("g", [("h", [("i", b""), ("j", b"")])]), ("k", b"")])])
        self.check_item(image, "", "Root Entry", 5, 0, 1)
        self.check_item(image, "f", "f", 1, 0, 2)
        self.check_item(image, "f/g", "g", 1, 0, 1)
        self.check_item(image, "f/g/h", "h", 1, 0, 2)

    def test_counts_in_trees_of_every_shape(self):
        for shape in ("balanced", "left", "right"):
            for count in (1, 2, 3, 7, 150):
                image = Image([("f", [(f"n{number}", b"") for number in range(count)])], shape=shape)
                self.check_item(image, "f", "f", 1, 0, count)
                self.check_item(image, "", "Root Entry", 5, 0, 1)
                self.check_item(image, "f/n0", "n0", 2, 0, 0)

    def test_entries_in_any_place(self):
        image = Image(TREE, directories=5, order="mixed", scatter=True)
        something = {}
        for path, number in image.numbers.items():
            entry = image.items[number]
            below = sum(1 for other in image.numbers if other and other.rpartition("/")[0] == path)
            something[number] = told(entry.name, entry.kind, len(entry.content), below)
        numbers = range(-25, 25)
        self.assertEqual(self.items(*numbers, image=image), [something.get(number, [-1]) for number in numbers])
        self.assertEqual(len(something), 11)


class NoItem(StoreCase):
    def items(self, file, numbers):
        answered = ask(BEGIN, opening(file), *[item_of(number) for number in numbers])
        self.assertEqual(answered[:2], [[0], [0]])
        return answered[2:]

    def test_no_store(self):
        for number in (0, 1, *OUTSIDE):
            self.assertEqual(ask(BEGIN, item_of(number)), [[0], [-4]], number)
        self.assertEqual(ask(BEGIN, opening(IMAGE.file), BEGIN, item_of(0)), [[0], [0], [0], [-4]])
        self.assertEqual(ask(BEGIN, opening(IMAGE.file[:-512]), item_of(0)), [[0], [-1], [-4]])

    def test_numbers_that_no_entry_has(self):
        self.assertEqual(self.items(IMAGE.file, OUTSIDE), [[-1]] * len(OUTSIDE))

    def test_a_full_directory(self):
        image = Image([("a", b""), ("b", b""), ("c", b"")])
        self.assertEqual(self.items(image.file, [3, 4, 5, -1, -2, -3, -4, -5]),
                         [told("c", 2, 0, 0)] + [[-1]] * 7)

    def test_entries_that_are_nothing(self):
        image = Image([("a", b"")], directories=2)
        self.assertEqual(self.items(image.file, range(1, 10)), [told("a", 2, 0, 0)] + [[-1]] * 8)

    def test_entries_that_are_nothing_whatever_else_stands_in_them(self):
        image = Image([("a", b""), ("b", b"")], shape="right")
        image.put(image.entry_at(3), int.from_bytes(image.items[2].row(), "little"), 128)
        file = image.changed((image.entry_at(2, 66), 0, 1), (image.entry_at(3, 66), 0, 1),
                             (image.entry_at(1, 72), FREE))
        self.assertEqual(self.items(file, [0, 1, 2, 3]),
                         [told("Root Entry", 5, 0, 1), told("a", 2, 0, 0), [-1], [-1]])

    def test_a_refused_item_changes_nothing(self):
        self.assertEqual(ask(BEGIN, opening(IMAGE.file), item_of(99), item_of(1), item_of(-1), item_of(1)),
                         [[0], [0], [-1], told("a", 2, 3, 0), [-1], told("a", 2, 3, 0)])


if __name__ == "__main__":
    unittest.main()
