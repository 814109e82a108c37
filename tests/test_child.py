"""child: what hangs right below an entry, in order (point 5)."""

import unittest

from tests.helper import BEGIN, FREE, RIGHT, Image, StoreCase, ask, child_of, name_key, opening

TREE = [("a", b"1"), ("C", b"2"), ("b", [("z", b"3"), ("Y", []), ("long name", b"4" * 4096), ("x", b"")]),
        ("bare", []), ("aa", b"5" * 70), ("Ab", b""), ("[", b""), ("_", b""), ("{", b"")]
IMAGE = Image(TREE)
LIMITS = (-2147483648, 2147483647)


def in_order(image, path):
    """The numbers of what hangs right below, by the names' order."""
    below = [(name_key(image.items[number].name), number) for other, number in image.numbers.items()
             if other and other.rpartition("/")[0] == path]
    return [number for key, number in sorted(below)]


class ChildOf(StoreCase):
    def children(self, number, places, image=IMAGE):
        answered = ask(BEGIN, opening(image.file), *[child_of(number, place) for place in places])
        self.assertEqual(answered[:2], [[0], [0]])
        self.assertTrue(all(len(answer) == 1 for answer in answered))
        return [answer[0] for answer in answered[2:]]

    def check_children(self, image, path):
        expected = in_order(image, path)
        places = range(-3, len(expected) + 3)
        self.assertEqual(self.children(image.numbers[path], places, image), [-1] * 3 + expected + [-1] * 3)

    def test_written_out(self):
        image = Image([("c", b""), ("b", []), ("aa", b""), ("A", b"")], shape="balanced")
        image.items[1].name, image.items[2].name, image.items[3].name = "x", "Y", "z"
        image.write_entries()
        self.assertEqual(self.children(0, [0, 1, 2, 3, 4], image), [1, 2, 3, 4, -1])

    def test_by_names_and_not_by_numbers(self):
        image = Image([("a", b""), ("b", b""), ("c", b"")], shape="right")
        for number, name, right in ((3, "a", 1), (1, "B", 2), (2, "c", FREE)):
            image.items[number].name = name
            image.items[number].right = right
        image.items[0].below = 3
        image.write_entries()
        self.assertEqual(self.children(0, [0, 1, 2, 3], image), [3, 1, 2, -1])

    def test_left_and_right(self):
        image = Image([("a", b""), ("b", b""), ("c", b"")], shape="balanced")
        self.assertEqual((image.items[2].left, image.items[2].right), (1, 3))
        self.assertEqual(self.children(0, [0, 1, 2, 3], image), [1, 2, 3, -1])

    def test_each_place_of_the_root_and_of_a_folder(self):
        for path in ("", "b"):
            self.check_children(IMAGE, path)

    def test_every_shape_and_numbers_out_of_order(self):
        for shape in ("balanced", "left", "right"):
            for scatter in (False, True):
                image = Image(TREE, shape=shape, order="mixed", scatter=scatter, directories=5)
                for path in image.numbers:
                    self.check_children(image, path)

    def test_the_shorter_name_first_and_great_letters(self):
        names = ["b", "A", "aa", "AAA", "Z", "[", "_", "a0", "~", " ", "@", "zz", "Zy", "{"]
        image = Image([(name, b"") for name in names], scatter=True)
        ordered = [" ", "@", "A", "b", "Z", "[", "_", "{", "~", "a0", "aa", "Zy", "zz", "AAA"]
        self.assertEqual(self.children(0, range(14), image), [image.numbers[name] for name in ordered])

    def test_only_what_hangs_right_below(self):
        image = Image([("f", [("g", [("h", b"")])])])
        for number in (0, 1, 2):
            self.assertEqual(self.children(number, [0, 1], image), [number + 1, -1])

    def test_a_hundred_and_fifty_below_one_another_in_a_tree(self):
        for shape in ("balanced", "left", "right"):
            image = Image([(f"n{number}", b"") for number in range(150)], shape=shape, scatter=True)
            self.check_children(image, "")

    def test_folders_in_folders(self):
        tree = []
        for depth in range(150):
            tree = [("n", tree)]
        image = Image(tree)
        calls = [child_of(number, 0) for number in range(151)]
        self.assertEqual(ask(BEGIN, opening(image.file), *calls),
                         [[0], [0]] + [[number] for number in range(1, 151)] + [[-1]])


class NoChild(StoreCase):
    def check_none(self, image, *pairs):
        answered = ask(BEGIN, opening(image.file), *[child_of(*pair) for pair in pairs])
        self.assertEqual(answered, [[0], [0]] + [[-1]] * len(pairs))

    def test_no_store(self):
        for pair in ((0, 0), (1, 0), (-1, 0), (0, -1), LIMITS, (2147483647, -2147483648)):
            self.assertEqual(ask(BEGIN, child_of(*pair)), [[0], [-4]], pair)
        self.assertEqual(ask(BEGIN, opening(IMAGE.file), BEGIN, child_of(0, 0)), [[0], [0], [0], [-4]])
        self.assertEqual(ask(BEGIN, opening(IMAGE.file[:-512]), child_of(0, 0)), [[0], [-1], [-4]])

    def test_places_below_0(self):
        self.check_none(IMAGE, *[(0, place) for place in (-1, -2, -8, -9, -10, -11, -2147483648)])

    def test_places_at_the_end_and_behind_it(self):
        self.check_none(IMAGE, *[(0, place) for place in (9, 10, 11, 100, 2147483647)])
        self.check_none(IMAGE, *[(IMAGE.numbers["b"], place) for place in (4, 5, 2147483647)])

    def test_files(self):
        for path in ("a", "aa", "Ab", "b/long name"):
            self.check_none(IMAGE, *[(IMAGE.numbers[path], place) for place in (0, 1, -1, *LIMITS)])

    def test_folders_with_nothing_below(self):
        for path in ("bare", "b/Y"):
            self.check_none(IMAGE, *[(IMAGE.numbers[path], place) for place in (0, 1, -1, *LIMITS)])
        self.check_none(Image(), (0, 0), (0, 1), (0, -1))

    def test_entries_that_are_nothing(self):
        image = Image([("f", [("a", b"")])], directories=2)
        self.check_none(image, *[(number, place) for number in range(3, 8) for place in (0, 1, -1)])

    def test_entries_that_are_nothing_whatever_else_stands_in_them(self):
        image = Image([("a", b""), ("f", [("b", b"")])])
        image.put(image.entry_at(2, 66), 0, 1)
        image.put(image.entry_at(0, 76), 1)
        image.put(image.entry_at(1, RIGHT), 3)
        self.check_none(image, (2, 0), (2, 1), (2, -1))

    def test_numbers_that_no_entry_has(self):
        image = Image([("a", b""), ("b", b""), ("f", [("c", b""), ("d", b""), ("e", b""), ("g", b"")])])
        self.assertEqual(len(image.items), 8)
        numbers = (-1, -2, -3, -4, -5, -8, -9, 8, 9, 12, *LIMITS)
        self.check_none(image, *[(number, place) for number in numbers for place in (0, 1, -1, *LIMITS)])

    def test_a_refused_child_changes_nothing(self):
        self.assertEqual(ask(BEGIN, opening(IMAGE.file), child_of(0, 9), child_of(0, 0), child_of(-1, 0),
                             child_of(0, 0)), [[0], [0], [-1], [1], [-1], [1]])


if __name__ == "__main__":
    unittest.main()
