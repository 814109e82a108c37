"""find, paths, and names that are alike (point 3)."""

import unittest

from tests.helper import BEGIN, Image, StoreCase, ask, finding, opening

TREE = [("a", b"1"), ("B", b"2"), ("folder", [("a", b"3"), ("Sub Folder", [("deep.txt", b"4" * 5000), ("e", [])])]),
        ("empty", []), ("aa", b""), ("[x]", b"5"), ("{y}", b"6"), ("@", b"7"), ("_", b"8")]
IMAGE = Image(TREE)


class Find(StoreCase):
    def found(self, *paths, image=IMAGE, bounds=True):
        answered = ask(BEGIN, opening(image.file), *[finding(path) for path in paths], bounds=bounds)
        self.assertEqual(answered[:2], [[0], [0]])
        self.assertTrue(all(len(answer) == 1 for answer in answered))
        return [answer[0] for answer in answered[2:]]

    def check_none(self, *paths):
        for path, number in zip(paths, self.found(*paths)):
            with self.subTest(path=path):
                self.assertEqual(number, -1)

    def test_the_empty_path_is_the_root(self):
        self.assertEqual(self.found("", "", image=Image()), [0, 0])
        self.assertEqual(self.found(""), [0])

    def test_folders_and_files_at_any_depth(self):
        self.assertEqual(self.found(*IMAGE.numbers), list(IMAGE.numbers.values()))

    def test_in_trees_of_other_shapes_and_orders(self):
        for shape in ("left", "right"):
            for order in ("back", "mixed"):
                image = Image(TREE, shape=shape, order=order)
                self.assertEqual(self.found(*image.numbers, image=image), list(image.numbers.values()))

    def test_small_and_great_letters(self):
        for path, number in IMAGE.numbers.items():
            self.assertEqual(self.found(path.upper(), path.lower(), path.swapcase()), [number] * 3)

    def test_every_letter(self):
        letters = "abcdefghijklmnopqrstuvwxyz"
        for name in (letters, letters.upper()):
            self.assertEqual(self.found(letters, letters.upper(), letters.title(), image=Image([(name, b"")])),
                             [1, 1, 1])

    def test_signs_are_alike_to_themselves_alone(self):
        self.check_none("{x}", "[y]", "[x}", "`", "?", "\x7f", "{X]", "\x1f")
        signs = [chr(k) for k in range(32, 127) if chr(k) not in "/\\:!" and not chr(k).islower()]
        image = Image([(sign, b"") for sign in signs])
        every = [chr(k) for k in range(256) if chr(k) != "/"]
        for path, number in zip(every, self.found(*every, image=image)):
            expected = -1
            if path.isascii() and path.upper() in signs:
                expected = image.numbers[path.upper()]
            with self.subTest(path=path):
                self.assertEqual(number, expected)

    def test_names_that_there_are_not(self):
        self.check_none("b1", "aaa", "folde", "folders", "older", "sub folder", "folder/b", "folder/sub", "x",
                        "folder/Sub Folder/deep", "folder/Sub Folder/deep.txt ", "empty/a", "deep.txt", "e",
                        "folder/Sub Folder/a", "folder/folder", "root entry", "Root Entry", "Root Entry/a")

    def test_paths_that_lead_on_from_a_file(self):
        self.check_none("a/a", "a/", "a/folder", "folder/a/a", "folder/Sub Folder/deep.txt/e", "a/a/a/a/a")

    def test_empty_names(self):
        self.check_none("/", "//", "/a", "a/", "folder/", "/folder", "folder//a", "//a", "folder/a/", "empty/",
                        "folder/Sub Folder//e", "/" * 4096)

    def test_no_dots_and_no_other_slashes(self):
        self.check_none(".", "..", "./a", "folder/..", "folder/../a", "folder\\a", "folder:a", "folder!a")

    def test_bytes_that_no_name_can_have(self):
        self.check_none(*[bytes([value]) for value in (*range(0, 32), *range(127, 256))])
        self.check_none(*[b"a" + bytes([value]) for value in (0, 10, 128, 255)])
        self.check_none(*[bytes([value]) + b"a" for value in (0, 10, 128, 255)])
        self.check_none("a\x00", "\x00", "a\x00a", "a\x00/", "folder\x00/a", "\xe1", "\xc1")

    def test_a_path_as_two_byte_characters(self):
        self.check_none("a".encode("utf-16-le"), "folder".encode("utf-16-le"))

    def test_names_of_31_characters_and_more(self):
        image = Image([("x" * 31, [("y" * 31, b"")]), ("x" * 30, b"")])
        self.assertEqual(self.found("X" * 31, "x" * 31 + "/" + "Y" * 31, "x" * 30, "x" * 29, "x" * 32, "x" * 62,
                                    "x" * 31 + "/" + "y" * 32, image=image), [2, 3, 1, -1, -1, -1, -1])

    def test_the_same_name_in_folders_of_the_same_name(self):
        image = Image([("a", [("a", [("a", [])])])])
        self.assertEqual(self.found("a", "a/A", "A/a/A", "a/a/a/a", image=image), [1, 2, 3, -1])

    def test_long_paths_that_lead_nowhere(self):
        self.check_none("x" * 4096, "a" * 4096, "a/" * 2048, "folder/" * 585)

    def test_find_changes_nothing(self):
        self.assertEqual(self.found("a", "x", "a", "", "folder/a"),
                         [IMAGE.numbers["a"], -1, IMAGE.numbers["a"], 0, IMAGE.numbers["folder/a"]])

    def test_entries_that_are_nothing_are_not_found(self):
        image = Image([("a", b"")])
        row = bytearray(image.file[image.entry_at(1):image.entry_at(1) + 128])
        row[0] = ord("z")
        row[66] = 0
        image.put(image.entry_at(2), int.from_bytes(row, "little"), 128)
        self.assertEqual(self.found("a", "z", image=image), [1, -1])

    def test_numbers_follow_the_entries_and_not_the_order_of_names(self):
        image = Image([("a", b""), ("b", b"")], shape="right")
        image.put(image.entry_at("a"), ord("y"), 2)
        image.put(image.entry_at("b"), ord("x"), 2)
        image.put(image.entry_at(0, 76), 2)
        image.put(image.entry_at(2, 72), 1)
        image.put(image.entry_at(1, 72), 4294967295)
        self.assertEqual(self.found("x", "y", image=image), [2, 1])


class LongPaths(StoreCase):
    """Folders in folders whose path has just so many bytes."""

    def nested(self, lengths):
        tree = []
        for length in reversed(lengths):
            tree = [("n" * length, tree)]
        return Image(tree), "/".join("N" * length for length in lengths)

    def test_a_path_of_4096_bytes_that_leads_to_an_entry(self):
        image, path = self.nested([31] * 127 + [30, 1])
        self.assertEqual(len(path), 4096)
        self.assertEqual(ask(BEGIN, opening(image.file), finding(path)), [[0], [0], [129]])

    def test_4095_bytes(self):
        image, path = self.nested([31] * 128)
        self.assertEqual(len(path), 4095)
        self.assertEqual(ask(BEGIN, opening(image.file), finding(path)), [[0], [0], [128]])

    def test_a_path_of_4097_bytes_leads_nowhere(self):
        image, path = self.nested([31] * 127 + [30, 2])
        self.assertEqual(len(path), 4097)
        self.assertEqual(ask(BEGIN, opening(image.file), finding(path), finding(path[:-3]), bounds=False),
                         [[0], [0], [-1], [128]])


if __name__ == "__main__":
    unittest.main()
