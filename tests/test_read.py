"""read: a file's bytes, or some of them (point 6)."""

import random
import unittest

from tests.helper import BEGIN, SIZE, Image, StoreCase, ask, opening, reading

MOST = 1048576
FARTHEST = 4294967295
LIMITS = (-2147483648, 2147483647)


def noise(count, seed=0):
    return random.Random(f"{seed} {count}").randbytes(count)


SMALL = noise(1000)
LONG = noise(9000)
TREE = [("small", SMALL), ("long", LONG), ("empty", b""), ("folder", [("other", noise(700)), ("far", noise(4100))]),
        ("bare", [])]
IMAGE = Image(TREE, order="mixed", scatter=True, directories=3, spare=4, small_spare=4)


def told(content):
    return [len(content), *content]


def is_in_a_row(chain):
    return chain == list(range(chain[0], chain[0] + len(chain)))


class ReadCase(StoreCase):
    def reads(self, image, path, *spans):
        calls = [reading(image.numbers[path], at, most) for at, most in spans]
        answered = ask(BEGIN, opening(image.file), *calls)
        self.assertEqual(answered[:2], [[0], [0]])
        return answered[2:]

    def check_spans(self, image, path, content, spans):
        for span, answer in zip(spans, self.reads(image, path, *spans)):
            at, most = span
            with self.subTest(path=path, at=at, most=most):
                self.assertEqual(answer, told(content[at:at + most]))

    def check_whole(self, image, path, content):
        self.assertEqual(self.reads(image, path, (0, MOST)), [told(content)])


class Whole(ReadCase):
    def test_written_out(self):
        image = Image([("f", b"\x00\x01\xff")])
        self.assertEqual(ask(BEGIN, opening(image.file), [5, 1, 0, 1048576], [5, 1, 1, 1], [5, 1, 3, 1], [5, 1, 0, 0]),
                         [[0], [0], [3, 0, 1, 255], [1, 1], [0], [0]])

    def test_a_small_file_whose_small_sectors_are_not_in_a_row(self):
        self.assertFalse(is_in_a_row(IMAGE.small_chains["small"]))
        self.assertFalse(is_in_a_row(IMAGE.small_stream))
        self.check_whole(IMAGE, "small", SMALL)

    def test_a_long_file_whose_sectors_are_not_in_a_row(self):
        self.assertFalse(is_in_a_row(IMAGE.chains["long"]))
        self.check_whole(IMAGE, "long", LONG)

    def test_an_empty_file(self):
        self.check_whole(IMAGE, "empty", b"")
        self.check_whole(Image([("f", b"")]), "f", b"")

    def test_files_in_folders(self):
        self.check_whole(IMAGE, "folder/other", noise(700))
        self.check_whole(IMAGE, "folder/far", noise(4100))

    def test_in_a_row_and_from_back_to_front(self):
        for order in ("plain", "back", "mixed"):
            image = Image(TREE, order=order)
            for path, content in (("small", SMALL), ("long", LONG), ("folder/other", noise(700)), ("empty", b"")):
                self.check_whole(image, path, content)

    def test_sizes_at_the_edges_of_sectors(self):
        for size in (0, 1, 63, 64, 65, 127, 128, 129, 511, 512, 513, 575, 4032, 4095, 4096, 4097, 4607, 4608, 4609):
            for order in ("plain", "mixed"):
                image = Image([("f", noise(size)), ("g", noise(100)), ("h", noise(4200))], order=order)
                self.check_whole(image, "f", noise(size))
                self.check_whole(image, "g", noise(100))

    def test_what_lies_behind_the_end_in_the_last_sector_is_not_read(self):
        image = Image([("s", noise(65)), ("l", noise(4097))])
        small = image.sector_at(image.small_stream[0]) + 64 * image.small_chains["s"][-1]
        long = image.sector_at(image.chains["l"][-1])
        for at in (small, long):
            image.put(at + 1, int.from_bytes(b"\xee" * 63, "little"), 63)
        self.check_whole(image, "s", noise(65))
        self.check_whole(image, "l", noise(4097))
        self.assertEqual(self.reads(image, "s", (64, 5), (65, 5), (66, 5)), [told(noise(65)[64:]), [0], [0]])
        self.assertEqual(self.reads(image, "l", (4096, 5), (4097, 5), (4098, 5)), [told(noise(4097)[4096:]), [0], [0]])

    def test_one_size_less_in_the_same_sectors(self):
        image = Image([("s", noise(65 + 20)), ("l", noise(4097 + 20))])
        file = image.changed((image.entry_at("s", SIZE), 70), (image.entry_at("l", SIZE), 4100))
        calls = [reading(image.numbers[path]) for path in ("s", "l")]
        self.assertEqual(ask(BEGIN, opening(file), *calls), [[0], [0], told(noise(85)[:70]), told(noise(4117)[:4100])])

    def test_a_file_with_more_than_one_sector_of_the_small_table(self):
        tree = [(f"f{number}", noise(4000 - number, number)) for number in range(4)]
        image = Image(tree, order="mixed")
        self.assertGreater(len(image.small_table), 1)
        for path, content in tree:
            self.check_whole(image, path, content)

    def test_the_longest_that_the_interface_takes(self):
        content = noise(30000 - 10 - 4 * 512 - 200)
        image = Image([("f", content)])
        self.check_whole(image, "f", content)

    def test_every_byte_as_it_is(self):
        for content in (bytes(range(256)), bytes(range(256)) * 20, b"\x00" * 100, b"\xff" * 4096):
            self.check_whole(Image([("f", content)]), "f", content)


class Spans(ReadCase):
    ENDS = (0, 1, 2, 63, 64, 65, 511, 512, 513, 999, 1000, 1001, 4095, 4096, 4097, 8999, 9000, 9001, FARTHEST - 1,
            FARTHEST)

    def test_from_any_place_on(self):
        for path, content in (("small", SMALL), ("long", LONG), ("empty", b"")):
            self.check_spans(IMAGE, path, content, [(at, MOST) for at in self.ENDS])

    def test_as_many_as_asked_at_most(self):
        for path, content in (("small", SMALL), ("long", LONG), ("empty", b"")):
            spans = [(at, most) for at in (0, 1, 60, 500, 998, 999, 1000, 8999, 9000)
                     for most in (1, 2, 4, 64, 512, 600, 1000, 9000, MOST - 1, MOST)]
            self.check_spans(IMAGE, path, content, spans)

    def test_byte_by_byte(self):
        image = Image([("f", noise(200))], order="mixed")
        self.check_spans(image, "f", noise(200), [(at, 1) for at in range(202)])

    def test_at_the_end_and_behind_it_there_are_none(self):
        self.assertEqual(self.reads(IMAGE, "small", (1000, 1), (1001, 1), (FARTHEST, 1), (1000, MOST),
                                    (FARTHEST, MOST)), [[0]] * 5)
        self.assertEqual(self.reads(IMAGE, "long", (9000, 1), (9001, MOST), (FARTHEST, 1), (FARTHEST, MOST)), [[0]] * 4)
        self.assertEqual(self.reads(IMAGE, "empty", (0, 1), (0, MOST), (1, 1), (FARTHEST, MOST)), [[0]] * 4)

    def test_most_at_its_limits(self):
        for path, content in (("small", SMALL), ("long", LONG)):
            self.assertEqual(self.reads(IMAGE, path, (0, 1), (0, MOST - 1), (0, MOST), (7, 1), (7, MOST)),
                             [told(content[:1]), told(content), told(content), told(content[7:8]), told(content[7:])])

    def test_most_outside_its_limits_is_answered_by_0(self):
        for path in ("small", "long", "empty"):
            spans = [(at, most) for at in (0, 5, 1000, FARTHEST)
                     for most in (0, -1, -2, -999, -1000, -9000, MOST + 1, MOST + 2, *LIMITS)]
            self.assertEqual(self.reads(IMAGE, path, *spans), [[0]] * len(spans))


class NoRead(ReadCase):
    SPANS = [(at, most) for at in (0, 1, FARTHEST) for most in (1, 5, MOST, MOST + 1, 0, -1, *LIMITS)]

    def check_none(self, image, numbers):
        for number in numbers:
            answered = ask(BEGIN, opening(image.file), *[reading(number, *span) for span in self.SPANS])
            self.assertEqual(answered, [[0], [0]] + [[-1]] * len(self.SPANS), number)

    def test_no_store(self):
        for number in (0, 1, 2, -1, 99, *LIMITS):
            for span in self.SPANS:
                self.assertEqual(ask(BEGIN, reading(number, *span)), [[0], [-4]])
        self.assertEqual(ask(BEGIN, opening(IMAGE.file), BEGIN, reading(1)), [[0], [0], [0], [-4]])
        self.assertEqual(ask(BEGIN, opening(IMAGE.file[:-512]), reading(1)), [[0], [-1], [-4]])

    def test_the_root(self):
        self.check_none(IMAGE, [0])
        self.check_none(Image(), [0])

    def test_folders(self):
        self.check_none(IMAGE, [IMAGE.numbers["folder"], IMAGE.numbers["bare"]])

    def test_entries_that_are_nothing(self):
        nothing = [number for number in range(12) if number not in IMAGE.numbers.values()]
        self.assertEqual(len(nothing), 4)
        self.check_none(IMAGE, nothing)

    def test_entries_that_are_nothing_whatever_else_stands_in_them(self):
        image = Image([("a", noise(100))])
        image.put(image.entry_at(2), int.from_bytes(image.items[1].row(), "little"), 128)
        image.put(image.entry_at(2, 66), 0, 1)
        self.check_none(image, [2])

    def test_numbers_that_no_entry_has(self):
        self.check_none(IMAGE, [12, 13, 16, 100, *LIMITS, *range(-14, 0)])
        self.check_none(Image([("a", noise(10)), ("b", noise(10)), ("c", noise(10))]), [-1, -2, -3, -4, -5, 4, 5])

    def test_a_refused_read_changes_nothing(self):
        number = IMAGE.numbers["small"]
        self.assertEqual(ask(BEGIN, opening(IMAGE.file), reading(0), reading(number), reading(-1), reading(number)),
                         [[0], [0], [-1], told(SMALL), [-1], told(SMALL)])


if __name__ == "__main__":
    unittest.main()
