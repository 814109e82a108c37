"""All calls on one holder, in any order: what the document says over the whole program."""

import contextlib
import io
import random
import unittest

from filevault.desk import answers
from tests.helper import (BEGIN, Image, Watched, ask, child_of, finding, item_of, name_key, opening, reading)

FIRST = Image([("a", b"one"), ("Folder", [("b", b"two" * 50), ("Sub", [("c", b"")])]), ("long", b"three" * 900)],
              order="mixed", scatter=True, directories=3)
SECOND = Image([("a", []), ("other", b"four" * 30), ("A name of thirty-one characters", [("B", b"5")])], shape="left")
BARE = Image()
IMAGES = (FIRST, SECOND, BARE)
NO_STORES = (b"", b"\xd0", bytes(1024), FIRST.file[:-1], FIRST.file[:512], BARE.file + bytes(511),
             SECOND.changed((SECOND.entry_at("other", 120), 129)), SECOND.changed((0, 0)))
NUMBERS = (*range(-13, 14), -2147483648, 2147483647, 1000)
PLACES = (-2147483648, -3, -2, -1, 0, 0, 1, 1, 2, 3, 4, 2147483647)
STARTS = (0, 0, 1, 63, 64, 100, 149, 150, 151, 4499, 4500, 4501, 4294967295)
MOSTS = (-2147483648, -1, 0, 1, 2, 64, 100, 5000, 1048576, 1048577, 2147483647)
PATHS = (b"", b"a", b"A", b"folder", b"FOLDER/B", b"folder/sub/c", b"long", b"long/a", b"other", b"a/", b"/", b"x",
         b"a name of THIRTY-ONE characters/b", b"Root Entry", b"a\x00", b"\xff", b"Folder/Sub/", b"x" * 4096)


class Model:
    """What the document promises, told from the trees that the stores were written from."""

    def __init__(self):
        self.image = None

    def below(self, number):
        paths = [path for path, other in self.image.numbers.items() if other == number]
        found = [other for path, other in self.image.numbers.items() if path and path.rpartition("/")[0] in paths]
        return sorted(found, key=lambda other: name_key(self.image.items[other].name))

    def begin(self):
        self.image = None
        return [0]

    def take_file(self, file):
        for image in IMAGES:
            if bytes(image.file) == bytes(file):
                self.image = image
                return [0]
        return [-1]

    def find(self, path):
        paths = {other.encode().upper(): number for other, number in self.image.numbers.items()}
        return [paths.get(bytes(path).upper(), -1)]

    def item(self, number):
        if number not in self.image.numbers.values():
            return [-1]
        entry = self.image.items[number]
        return [len(entry.name), entry.kind, len(entry.content), len(self.below(number)),
                *entry.name.encode().ljust(31, b"\x00")]

    def child(self, number, place):
        return [dict(enumerate(self.below(number))).get(place, -1)]

    def read(self, number, at, most):
        if number not in self.image.numbers.values() or self.image.items[number].kind != 2:
            return [-1]
        part = self.image.items[number].content[at:at + most] if 0 < most <= 1048576 else b""
        return [len(part), *part]

    def answer(self, call):
        number, *given = call
        if number == 0:
            return self.begin()
        if number == 1:
            return self.take_file(given[1:])
        if self.image is None:
            return [-4]
        if number == 2:
            return self.find(given[1:])
        return {3: self.item, 4: self.child, 5: self.read}[number](*given)


def any_call(source):
    kind = source.randrange(40)
    if kind == 0:
        return BEGIN
    if kind <= 3:
        return opening(source.choice(IMAGES).file)
    if kind <= 6:
        return opening(source.choice(NO_STORES))
    if kind <= 14:
        return finding(source.choice(PATHS))
    if kind <= 22:
        return item_of(source.choice(NUMBERS))
    if kind <= 30:
        return child_of(source.choice(NUMBERS), source.choice(PLACES))
    return reading(source.choice(NUMBERS), source.choice(STARTS), source.choice(MOSTS))


def any_calls(seed):
    """As many calls in any order as the interface takes, or fewer."""
    source = random.Random(seed)
    calls = [BEGIN, any_call(source)]
    size = sum(len(call) for call in calls)
    for turn in range(source.choice((5, 50, 298))):
        call = any_call(source)
        if size + len(call) <= 30000:
            calls.append(call)
            size += len(call)
    return calls


class AnyOrder(unittest.TestCase):
    def check_line(self, calls):
        model = Model()
        self.assertEqual(ask(*calls), [model.answer(call) for call in calls])

    def test_all_calls_in_any_order(self):
        for seed in range(150):
            with self.subTest(seed=seed):
                self.check_line(any_calls(seed))

    def test_every_call_of_every_store(self):
        for image in IMAGES:
            for behind in ([], [opening(NO_STORES[3])]):
                start = [BEGIN, opening(image.file), *behind]
                self.check_line(start + [finding(path) for path in PATHS])
                self.check_line(start + [item_of(number) for number in NUMBERS])
                for place in PLACES:
                    self.check_line(start + [child_of(number, place) for number in NUMBERS])
                for number in NUMBERS:
                    self.check_line(start + [reading(number, at, most) for at in STARTS for most in MOSTS])

    def test_every_call_where_there_is_no_store(self):
        calls = [finding(path) for path in PATHS] + [item_of(number) for number in NUMBERS]
        calls += [child_of(number, place) for number in (0, 1, -1) for place in PLACES]
        calls += [reading(number, at, most) for number in (0, 1, -1) for at in (0, 4294967295) for most in MOSTS]
        for start in ([BEGIN], [BEGIN, opening(SECOND.file), BEGIN], [BEGIN, opening(NO_STORES[2])]):
            self.check_line(start + calls)
            self.assertEqual(ask(*start, *calls)[len(start):], [[-4]] * len(calls))

    def test_a_file_that_is_no_store_leaves_the_store_as_it_was(self):
        calls = [finding("folder/b"), item_of(0), child_of(0, 1), reading(FIRST.numbers["long"], 100, 50)]
        before = ask(BEGIN, opening(FIRST.file), *calls)[2:]
        self.assertNotIn([-1], before)
        for file in NO_STORES:
            self.assertEqual(ask(BEGIN, opening(FIRST.file), *calls, opening(file), *calls),
                             [[0], [0], *before, [-1], *before])

    def test_another_store_leaves_nothing_of_the_first(self):
        number = FIRST.numbers["long"]
        self.assertEqual(ask(BEGIN, opening(FIRST.file), opening(BARE.file), finding("long"), item_of(number),
                             child_of(0, 0), reading(number), finding("")),
                         [[0], [0], [0], [-1], [-1], [-1], [-1], [0]])

    def test_one_call_does_not_change_what_the_next_answers(self):
        calls = [item_of(0), child_of(0, 0), reading(FIRST.numbers["long"]), finding("a"), item_of(FIRST.numbers["a"])]
        found = ask(BEGIN, opening(FIRST.file), *calls, *calls, *reversed(calls))
        self.assertEqual(found[2:7], found[7:12])
        self.assertEqual(found[2:7], found[12:][::-1])

    def test_three_hundred_calls_and_thirty_thousand_numbers(self):
        calls = [BEGIN, opening(FIRST.file), *[reading(FIRST.numbers["long"])] * 297]
        left = 30000 - sum(len(call) for call in calls)
        calls.append(opening(bytes(left - 2)))
        self.assertEqual((len(calls), sum(len(call) for call in calls)), (300, 30000))
        self.check_line(calls)


class HandedIn(unittest.TestCase):
    def lines(self):
        return [[number for call in any_calls(seed) for number in call] for seed in range(20)]

    def test_the_list_is_the_same_before_and_behind(self):
        for line in self.lines():
            kept = list(line)
            answers(line)
            self.assertEqual(line, kept)

    def test_the_list_is_not_changed_for_a_while_either(self):
        for line in self.lines():
            self.assertEqual(answers(Watched(line)), answers(line))

    def test_the_same_calls_are_answered_alike_two_times(self):
        lines = self.lines()
        first = [answers(line) for line in lines]
        second = [answers(line) for line in reversed(lines)][::-1]
        self.assertEqual(first, second)

    def test_what_was_answered_may_be_changed(self):
        line = [0, *opening(FIRST.file), *reading(FIRST.numbers["long"]), *item_of(0)]
        first = answers(line)
        kept = list(first)
        first[:] = [7] * len(first)
        self.assertEqual(answers(line), kept)

    def test_whole_numbers_in_a_list(self):
        for line in self.lines():
            found = answers(line)
            self.assertIs(type(found), list)
            self.assertEqual({type(number) for number in found}, {int})

    def test_nothing_is_printed(self):
        with contextlib.redirect_stdout(io.StringIO()) as out, contextlib.redirect_stderr(io.StringIO()) as errors:
            for line in self.lines():
                answers(line)
        self.assertEqual(out.getvalue() + errors.getvalue(), "")


if __name__ == "__main__":
    unittest.main()
