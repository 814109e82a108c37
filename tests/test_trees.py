"""Trees, where entries hang, and the order of names (point 2)."""

import itertools
import unittest

from tests.helper import BELOW, END, FREE, LEFT, RIGHT, Image, StoreCase, name_key


def one_folder(names, shape):
    """A store with these names in its root, from left to right as they come here, in order or not."""
    count = len(names)
    image = Image([(f"{k:05}", b"") for k in range(count)], shape=shape)
    for k, name in enumerate(names):
        number = image.numbers[f"{k:05}"]
        row = name.encode("utf-16-le").ljust(64, b"\x00") + (2 * len(name) + 2).to_bytes(2, "little")
        image.put(image.entry_at(number), int.from_bytes(row, "little"), 66)
    return image


class Hanging(StoreCase):
    """Names go with their places: b has a left and c right, below c hang d and in it e."""

    IMAGE = Image([("a", b""), ("b", b""), ("c", [("d", [("e", b"")])])], directories=2)
    SPARE = 7

    def test_the_shape_of_the_image(self):
        self.assertEqual(self.IMAGE.get(self.IMAGE.entry_at(0, BELOW)), 2)
        self.assertEqual(self.IMAGE.get(self.IMAGE.entry_at("b", LEFT)), 1)
        self.assertEqual(self.IMAGE.get(self.IMAGE.entry_at("b", RIGHT)), 3)
        self.check_store(self.IMAGE.file)

    def test_every_link_to_every_number(self):
        image = self.IMAGE
        for which in ("", "a", "b", "c", "c/d", "c/d/e"):
            for place in (LEFT, RIGHT, BELOW):
                at = image.entry_at(which, place)
                for value in (*range(10), 127, 65536, 2147483648, END, FREE):
                    if value != image.get(at):
                        with self.subTest(which=which, place=place, value=value):
                            self.check_breaks(image, (at, value))

    def test_a_tree_that_hangs_below_itself(self):
        image = Image([("c", [("d", [("e", [])])])])
        for value in (1, 2, 3):
            self.check_breaks(image, (image.entry_at("c/d/e", BELOW), value))

    def test_a_ring_that_hangs_nowhere(self):
        image = Image([("c", [("d", [("e", b"")])])])
        self.check_breaks(image, (image.entry_at(0, BELOW), FREE), (image.entry_at("c/d", BELOW), 1),
                          (image.entry_at("c/d/e", 66), 0, 1))
        self.check_breaks(image, (image.entry_at("c", BELOW), FREE), (image.entry_at("c/d", BELOW), 2),
                          (image.entry_at("c/d/e", 66), 0, 1))

    def test_a_ring_of_left_and_right_that_hangs_nowhere(self):
        image = Image([("c", b""), ("d", b"")], shape="right")
        self.check_breaks(image, (image.entry_at(0, BELOW), FREE), (image.entry_at("d", LEFT), 1))

    def test_the_root_hangs_nowhere(self):
        image = Image([("c", [])])
        for place in (LEFT, RIGHT, BELOW):
            self.check_breaks(image, (image.entry_at("c", place), 0))
        self.check_breaks(Image(), (Image().entry_at(0, BELOW), 0))

    def test_in_two_places(self):
        image = Image([("c", [("e", b"")]), ("d", [])])
        self.check_breaks(image, (image.entry_at("d", BELOW), image.numbers["c/e"]))
        image = Image([("c", b""), ("d", b"")], shape="right")
        self.check_breaks(image, (image.entry_at("c", LEFT), image.numbers["d"]))

    def test_in_none(self):
        image = Image([("c", [("e", b"")]), ("d", [])])
        self.check_breaks(image, (image.entry_at("c", BELOW), FREE))
        self.check_keeps(image, (image.entry_at("c", BELOW), FREE), (image.entry_at("c/e", 66), 0, 1))

    def test_nothing_hangs_in_a_tree(self):
        image = Image([("c", []), ("d", b"")])
        self.assertEqual(len(image.items), 3)
        for which in ("c", "d"):
            for place in (LEFT, RIGHT):
                if image.get(image.entry_at(which, place)) == FREE:
                    self.check_breaks(image, (image.entry_at(which, place), 3))
        self.check_breaks(image, (image.entry_at("c", BELOW), 3))

    def test_moved_to_another_folder(self):
        image = Image([("c", [("e", b"")]), ("d", [])])
        self.check_keeps(image, (image.entry_at("c", BELOW), FREE),
                         (image.entry_at("d", BELOW), image.numbers["c/e"]))


class Order(StoreCase):
    def check_order(self, names):
        """Which orders of these names are taken, in trees of each shape: the one by name_key alone."""
        for shape in ("balanced", "left", "right"):
            for chosen in itertools.permutations(names):
                keys = [name_key(name) for name in chosen]
                is_ordered = all(one < other for one, other in zip(keys, keys[1:]))
                with self.subTest(shape=shape, chosen=chosen):
                    check = self.check_store if is_ordered else self.check_no_store
                    check(one_folder(chosen, shape).file)

    def test_by_length_first(self):
        self.check_order(("z", "aa", "B", "bbb"))

    def test_by_characters(self):
        self.check_order(("ab", "ba", "aa", "bb"))

    def test_small_letters_taken_as_great_ones(self):
        self.check_order(("a", "B", "c", "D"))
        self.check_order(("xa", "xB", "Xc"))

    def test_signs_between_great_and_small_letters(self):
        self.check_order(("a", "_", "Z", "^"))
        self.check_order(("z", "[", "`"))

    def test_signs_around_the_letters(self):
        self.check_order(("@", "A", "z", "{"))
        self.check_order((" ", "0", "~", "}"))

    def test_alike_names(self):
        self.check_order(("same", "same"))
        self.check_order(("same", "SAME"))
        self.check_order(("a", "b", "B"))
        self.check_order(("q1_Z", "Q1_z", "x"))

    def test_five_names(self):
        self.check_order(("e", "A", "d", "B", "c"))

    def test_alike_names_in_other_folders(self):
        self.check_store(Image([("a", [("a", [("A", b"")]), ("b", b"")]), ("b", [("A", b"")])]).file)

    def test_order_across_a_tree_and_not_only_beside_the_next(self):
        for names in (("a", "e", "c", "d", "f", "g", "h"), ("a", "b", "c", "f", "e", "g", "h"),
                      ("a", "b", "c", "d", "c", "e", "f"), ("a", "b", "d", "d", "e", "f", "g")):
            for shape in ("balanced", "left", "right"):
                self.check_no_store(one_folder(names, shape).file)
        self.check_store(one_folder("abcdefg", "balanced").file)

    def test_order_below_a_folder(self):
        image = Image([("top", [("a", b""), ("b", b""), ("c", b"")])])
        for which, letters in (("top/a", "bcd"), ("top/b", "acd"), ("top/c", "ab")):
            for letter in letters:
                self.check_breaks(image, (image.entry_at(which), ord(letter), 2))
                self.check_breaks(image, (image.entry_at(which), ord(letter.upper()), 2))
        self.check_keeps(image, (image.entry_at("top/c"), ord("D"), 2))

    def test_the_root_s_name_and_a_folder_s_are_of_no_order_with_those_below(self):
        self.check_store(Image([("root entry", [("root entry", b"")])]).file)

    def test_left_and_right_changed(self):
        image = Image([("a", b""), ("b", b""), ("c", b"")])
        at = image.entry_at("b", LEFT), image.entry_at("b", RIGHT)
        self.check_breaks(image, (at[0], image.get(at[1])), (at[1], image.get(at[0])))


if __name__ == "__main__":
    unittest.main()
