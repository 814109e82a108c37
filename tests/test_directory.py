"""The directory's entries, each place of them, and names (point 2)."""

import unittest

from tests.helper import BELOW, END, FREE, LEFT, RIGHT, SIZE, START, Image, StoreCase

IMAGE = Image([("ab", b"x" * 70), ("cd", [("ef", b"y" * 4100), ("gh", [])])], directories=2)
SOMETHING = ("", "ab", "cd", "cd/ef", "cd/gh")


def name_change(image, which, name, length=None):
    """The change that gives an entry a name: a list of characters' numbers, the end among them."""
    row = b"".join(character.to_bytes(2, "little") for character in name).ljust(64, b"\x00")
    told = 2 * len(name) if length is None else length
    return (image.entry_at(which), int.from_bytes(row + told.to_bytes(2, "little"), "little"), 66)


class Places(StoreCase):
    def check_values(self, which, place, values, width=4):
        for value in values:
            with self.subTest(which=which, place=place, value=value):
                self.check_breaks(IMAGE, (IMAGE.entry_at(which, place), value, width))

    def test_what_it_is(self):
        for which in SOMETHING:
            self.check_values(which, 66, (3, 4, 6, 7, 128, 255), 1)
        for number in range(5, 8):
            self.check_values(number, 66, (1, 2, 3, 4, 5, 6, 255), 1)

    def test_something_is_nothing(self):
        for which in SOMETHING:
            self.check_values(which, 66, (0,), 1)

    def test_0_or_1_at_67(self):
        for which in SOMETHING:
            self.check_values(which, 67, (2, 3, 128, 255), 1)

    def test_0_at_124(self):
        for which in SOMETHING:
            self.check_values(which, 124, (1, 256, 65536, 16777216, FREE))

    def test_a_folder_begins_at_0(self):
        for which in ("cd", "cd/gh"):
            self.check_values(which, START, (1, 256, END, FREE, IMAGE.count))

    def test_a_folder_is_0_long(self):
        for which in ("cd", "cd/gh"):
            self.check_values(which, SIZE, (1, 64, 512, 4096, 65536, FREE))

    def test_a_file_has_nothing_below(self):
        for which in ("ab", "cd/ef"):
            self.check_values(which, BELOW, (0, 1, 2, 3, 4, 5, 8, END))

    def test_something_below_a_file_that_hangs_nowhere_else(self):
        image = Image([("ab", b""), ("cd", [("ef", b"")])])
        self.check_breaks(image, (image.entry_at("cd", BELOW), FREE), (image.entry_at("ab", BELOW), 3))
        self.check_breaks(image, (image.entry_at("cd", 66), 2, 1), (image.entry_at("cd", START), END))


class Root(StoreCase):
    def test_entry_0_is_the_root(self):
        image = Image()
        for kind in (0, 1, 2):
            with self.subTest(kind=kind):
                self.check_breaks(image, (image.entry_at(0, 66), kind, 1))
                self.check_breaks(image, (image.entry_at(0, 66), kind, 1), (image.entry_at(0, START), 0))

    def test_no_other_is(self):
        image = Image([("ab", []), ("cd", b"")])
        for which in ("ab", "cd"):
            self.check_breaks(image, (image.entry_at(which, 66), 5, 1))
            self.check_breaks(image, (image.entry_at(which, 66), 5, 1), (image.entry_at(which, START), END))

    def test_another_root_that_hangs_nowhere(self):
        image = Image()
        row = bytes(image.file[image.entry_at(0):image.entry_at(0) + 128])
        for number in (1, 2, 3):
            self.check_breaks(image, (image.entry_at(number), int.from_bytes(row, "little"), 128))

    def test_a_root_in_another_entry(self):
        image = Image()
        row = bytes(image.file[image.entry_at(0):image.entry_at(0) + 128])
        self.check_breaks(image, (image.entry_at(1), int.from_bytes(row, "little"), 128),
                          (image.entry_at(0, 66), 0, 1))

    def test_nothing_left_or_right(self):
        image = Image([("ab", b""), ("cd", b"")])
        top = image.get(image.entry_at(0, BELOW))
        for place in (LEFT, RIGHT):
            for value in (0, 1, 2, 3, 4, END):
                with self.subTest(place=place, value=value):
                    self.check_breaks(image, (image.entry_at(0, place), value))
            self.check_breaks(image, (image.entry_at(0, place), top), (image.entry_at(0, BELOW), FREE))

    def test_an_entry_left_of_the_root_that_hangs_nowhere_else(self):
        image = Image([("ab", b""), ("cd", b"")], shape="left")
        self.check_breaks(image, (image.entry_at("cd", LEFT), FREE), (image.entry_at(0, LEFT), 1))
        self.check_breaks(image, (image.entry_at("cd", LEFT), FREE), (image.entry_at(0, RIGHT), 1))

    def test_a_directory_without_sectors(self):
        image = Image(spare=1)
        self.check_breaks(image, (48, END), (image.table_at(image.directory[0]), FREE))


class Names(StoreCase):
    IMAGE = Image([("m", b""), ("folder", [("x", b"")])])
    ONES = ("m", "folder/x")

    def test_characters_that_a_name_may_have(self):
        for character in range(32, 127):
            allowed = character not in b"/\\:!"
            check = self.check_keeps if allowed else self.check_breaks
            for which in ("", *self.ONES):
                with self.subTest(which=which, character=character):
                    check(self.IMAGE, name_change(self.IMAGE, which, [character, 0]))
                    if which == "":
                        check(self.IMAGE, name_change(self.IMAGE, which, [65, character, 66, 0]))
                        check(self.IMAGE, name_change(self.IMAGE, which, [65] * 30 + [character, 0]))

    def test_characters_that_no_name_can_have(self):
        for character in (0, 1, 5, 9, 10, 31, 127, 128, 196, 255, 256, 256 + 65, 65 * 256, 0x20AC, 65535):
            for which in ("", *self.ONES):
                with self.subTest(which=which, character=character):
                    self.check_breaks(self.IMAGE, name_change(self.IMAGE, which, [character, 0]))
            for name in ([character, 65, 0], [65, character, 65, 0], [65, character, 0], [65] * 30 + [character, 0]):
                with self.subTest(name=name):
                    self.check_breaks(self.IMAGE, name_change(self.IMAGE, "", name))

    def test_from_1_to_31_characters(self):
        for which in ("", "folder/x"):
            for count in range(1, 32):
                self.check_keeps(self.IMAGE, name_change(self.IMAGE, which, [65] * count + [0]))
            self.check_breaks(self.IMAGE, name_change(self.IMAGE, which, [0]))
            self.check_breaks(self.IMAGE, name_change(self.IMAGE, which, [65] * 32))

    def test_the_length_told(self):
        for which in ("", "folder/x"):
            for count in (1, 5, 30, 31):
                for length in (0, 1, 2, 2 * count, 2 * count + 1, 2 * count + 3, 2 * count + 4, 65, 66, 128, 65535):
                    with self.subTest(which=which, count=count, length=length):
                        self.check_breaks(self.IMAGE, name_change(self.IMAGE, which, [65] * count + [0], length))

    def test_a_length_that_ends_the_name_ahead(self):
        self.check_breaks(self.IMAGE, name_change(self.IMAGE, "folder/x", [65, 66, 67, 0], 6))
        self.check_breaks(self.IMAGE, name_change(self.IMAGE, "", [65] * 31 + [0], 62))

    def test_a_character_0_behind(self):
        for end in (1, 32, 65, 255, 256, 65 * 256, 65535):
            for count in (1, 2, 31):
                with self.subTest(end=end, count=count):
                    self.check_breaks(self.IMAGE, name_change(self.IMAGE, "", [65] * count + [end]))

    def test_what_lies_behind_the_end(self):
        self.check_keeps(self.IMAGE, name_change(self.IMAGE, "folder/x", [65, 0, 66, 1, 65535], 4))


if __name__ == "__main__":
    unittest.main()
