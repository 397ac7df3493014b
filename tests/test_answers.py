import unittest

from cellstream.cells import UnknownCall, answers
from tests import helper


def row(octets):
    return [len(octets)] + octets


class Form(unittest.TestCase):
    def test_each_call_is_answered_behind_its_count(self):
        calls = [0, 1, 3, 40, 5, 6, 3, 9, 2, 7, 8, 2, 3, 40, 2, 3, 40]
        self.assertEqual(answers(calls), [1, 0, 1, 0, 1, 0, 1, 0, 1, -3])

    def test_first_call_need_not_be_begin(self):
        self.assertEqual(answers([1, 0, 32, 0, 0]), [1, 0])
        self.assertEqual(answers([2, 0, 32]), [1, -3])

    def test_bytes_without_bytes(self):
        self.assertEqual(answers([3, 0, 0, 0]), [1, 0, 1, 0])

    def test_bytes_that_look_like_calls_are_not(self):
        self.assertEqual(answers([3, 0, 5, 1, 1, 40, 0, 0, 2, 1, 40]), [1, 0, 1, -3])

    def test_a_refused_row_is_passed_over(self):
        self.assertEqual(answers([3, 2 ** 63, 3, 1, 2, 3, 0]), [1, -2, 1, 0])

    def test_four_hundred_calls(self):
        self.assertEqual(answers([0] * 400), [1, 0] * 400)

    def test_longest_row(self):
        octets = (helper.idle_cells(302))[:15997]
        self.assertEqual(answers([3, 0] + row(octets)), [1, 0])

    def test_whole_numbers(self):
        for number in answers([0, 1, 0, 0, 0, 0, 3, 0, 1, 7]):
            self.assertIs(type(number), int)
        self.assertIs(type(answers([0])), list)

    def test_what_is_no_call_is_told(self):
        for call in (-1, 8):
            with self.assertRaises(UnknownCall):
                answers([call])


class NothingKept(unittest.TestCase):
    def test_list_is_left_as_it_was(self):
        calls = [1, 3, 40, 5, 6, 3, 9] + row(helper.idle_cells(8)) + [2, 3, 40, 0]
        before = list(calls)
        answers(calls)
        self.assertEqual(calls, before)

    def test_each_time_is_the_first(self):
        calls = [1, 3, 40, 5, 6]
        self.assertEqual(answers(calls), [1, 0])
        self.assertEqual(answers(calls), [1, 0])

    def test_answers_are_not_shared(self):
        first = answers([0])
        first.append(9)
        self.assertEqual(answers([0]), [1, 0])


class Refusals(unittest.TestCase):
    def test_open(self):
        calls = [1, 256, 32, 0, 0, 1, 0, 31, 0, 0, 1, 0, 32, 0, 0, 1, 0, 32, 0, 0]
        self.assertEqual(answers(calls), [1, -2, 1, -2, 1, 0, 1, -3])

    def test_sixty_five_ways(self):
        calls = []
        for path in range(65):
            calls += [1, path, 40, 0, 0]
        self.assertEqual(answers(calls), [1, 0] * 64 + [1, -4])

    def test_begin_closes_all(self):
        self.assertEqual(answers([1, 0, 32, 0, 0, 0, 2, 0, 32, 1, 0, 32, 0, 0]), [1, 0, 1, 0, 1, -3, 1, 0])

    def test_numbers_at_their_ends(self):
        low, high = -2147483648, 2147483647
        calls = [1, low, high, 0, 0, 1, high, low, 0, 0, 2, low, low, 2, high, high]
        self.assertEqual(answers(calls), [1, -2] * 4)
        self.assertEqual(answers([1, 255, 65535, 4294967295, 4294967295]), [1, 0])

    def test_now(self):
        calls = [3, 2 ** 63 - 1, 1, 0, 3, 2 ** 63, 1, 0, 3, 2 ** 64 - 1, 0]
        self.assertEqual(answers(calls), [1, 0, 1, -2, 1, -2])

    def test_too_many_bytes(self):
        self.assertEqual(answers([3, 0] + row([0] * 65536)), [1, 0])
        self.assertEqual(answers([3, 0] + row([0] * 65537)), [1, -2])
