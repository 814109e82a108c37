"""The interface, begin, and what holds of all calls (point 1, and "The calls")."""

import unittest

from filevault.desk import answers
from tests.helper import BEGIN, Image, Watched, ask, finding, opening

FILE = Image([("a", b"one"), ("folder", [("b", b"two")])]).file
OTHER = Image([("other", b"three")]).file
BAD = FILE[:-1]


class Begin(unittest.TestCase):
    def test_the_empty_list_is_answered_by_the_empty_list(self):
        self.assertEqual(answers([]), [])

    def test_begin_answers_0(self):
        self.assertEqual(answers([0]), [1, 0])

    def test_begin_again_and_again(self):
        self.assertEqual(answers([0, 0, 0]), [1, 0, 1, 0, 1, 0])

    def test_behind_begin_there_is_no_store(self):
        self.assertEqual(ask(BEGIN, finding("")), [[0], [-4]])

    def test_begin_behind_an_open_leaves_no_store(self):
        self.assertEqual(ask(BEGIN, opening(FILE), finding("a"), BEGIN, finding("a"), finding("")),
                         [[0], [0], [1], [0], [-4], [-4]])

    def test_open_again_behind_begin_again(self):
        self.assertEqual(ask(BEGIN, opening(FILE), BEGIN, opening(OTHER), finding("other"), finding("a")),
                         [[0], [0], [0], [0], [1], [-1]])


class NoStore(unittest.TestCase):
    def test_find_answers_minus_4_of_any_path(self):
        for path in ("", "a", "/", "a/b", "!", "x" * 4096, b"\x00", b"\xff"):
            self.assertEqual(ask(BEGIN, finding(path)), [[0], [-4]], path)

    def test_minus_4_comes_before_the_path_s_length(self):
        self.assertEqual(ask(BEGIN, finding("x" * 4097), bounds=False), [[0], [-4]])

    def test_item_child_and_read_answer_minus_4(self):
        for call in ([3, 0], [3, -1], [3, 2147483647], [4, 0, 0], [4, -2147483648, 5], [5, 0, 0, 0],
                     [5, 1, 4294967295, -2147483648], [5, -1, 0, 1048577]):
            self.assertEqual(ask(BEGIN, call, BEGIN), [[0], [-4], [0]], call)

    def test_all_of_them_one_behind_another(self):
        self.assertEqual(answers([0, 3, 2, 4, 1, 0, 5, 2, 0, 1, 2, 1, 0, 0]),
                         [1, 0, 1, -4, 1, -4, 1, -4, 1, -4, 1, 0])

    def test_open_is_not_answered_minus_4(self):
        self.assertEqual(ask(BEGIN, opening(BAD), opening(FILE)), [[0], [-1], [0]])

    def test_a_refused_open_leaves_none(self):
        self.assertEqual(ask(BEGIN, opening(BAD), finding("a"), [3, 0]), [[0], [-1], [-4], [-4]])


class Open(unittest.TestCase):
    def test_a_refused_open_leaves_the_store_that_was(self):
        for bad in (BAD, b"", b"\x00", FILE[:512], FILE + b"\x00", bytes(1024)):
            self.assertEqual(ask(BEGIN, opening(FILE), opening(bad), finding("folder/b"), finding("other")),
                             [[0], [0], [-1], [3], [-1]])

    def test_a_second_store_stands_for_the_first(self):
        self.assertEqual(ask(BEGIN, opening(FILE), opening(OTHER), finding("a"), finding("other")),
                         [[0], [0], [0], [-1], [1]])

    def test_the_same_store_again(self):
        self.assertEqual(ask(BEGIN, opening(FILE), opening(FILE), finding("a")), [[0], [0], [0], [1]])

    def test_the_empty_file(self):
        self.assertEqual(answers([0, 1, 0]), [1, 0, 1, -1])
        self.assertEqual(answers([0, 1, 0, 2, 0, 0]), [1, 0, 1, -1, 1, -4, 1, 0])


class Interface(unittest.TestCase):
    LINE = [0, *opening(FILE), *finding("FOLDER/B"), *finding("x"), *opening(BAD), *finding(""), 0, *finding("a")]
    ANSWERED = [1, 0, 1, 0, 1, 3, 1, -1, 1, -1, 1, 0, 1, 0, 1, -4]

    def test_each_answer_has_its_length_ahead(self):
        self.assertEqual(answers(list(self.LINE)), self.ANSWERED)

    def test_what_is_handed_in_stays_as_it_was(self):
        line = list(self.LINE)
        answers(line)
        self.assertEqual(line, self.LINE)

    def test_what_is_handed_in_is_not_changed_for_a_while_either(self):
        self.assertEqual(answers(Watched(self.LINE)), self.ANSWERED)

    def test_the_same_list_is_answered_alike(self):
        line = list(self.LINE)
        self.assertEqual(answers(line), answers(line))

    def test_the_answers_are_new_lists(self):
        first = answers([0])
        first.append(7)
        self.assertEqual(answers([0]), [1, 0])

    def test_nothing_is_kept_from_one_time_to_the_next(self):
        self.assertEqual(ask(BEGIN, opening(FILE)), [[0], [0]])
        self.assertEqual(ask(BEGIN, finding("a")), [[0], [-4]])
        self.assertEqual(ask(BEGIN, [3, 0], [4, 0, 0], [5, 1, 0, 1]), [[0], [-4], [-4], [-4]])

    def test_answers_are_whole_numbers_in_a_list(self):
        found = answers(list(self.LINE))
        self.assertIs(type(found), list)
        self.assertEqual({type(number) for number in found}, {int})

    def test_three_hundred_calls(self):
        calls = [BEGIN, opening(FILE)] + [finding("folder/b")] * 298
        self.assertEqual(ask(*calls), [[0], [0]] + [[3]] * 298)


if __name__ == "__main__":
    unittest.main()
