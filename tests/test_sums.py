import unittest

from cellstream import sums
from tests import helper


class HeadSum(unittest.TestCase):
    def test_idle_head(self):
        self.assertEqual(sums.head_sum(1), 0x52)

    def test_no_bits_leave_the_turn_alone(self):
        self.assertEqual(sums.head_sum(0), 0x55)

    def test_every_bit_counts(self):
        for place in range(32):
            self.assertEqual(sums.head_sum(1 << place), helper.head_sum(1 << place))

    def test_many_heads(self):
        for step in range(500):
            head = step * 2654435761 % 2 ** 32
            self.assertEqual(sums.head_sum(head), helper.head_sum(head))


class MessageSum(unittest.TestCase):
    def test_known_sum(self):
        self.assertEqual(sums.message_sum(list(b"123456789")), 0xFC891918)

    def test_nothing(self):
        self.assertEqual(sums.message_sum([]), 0)

    def test_forty_zeros(self):
        self.assertEqual(sums.message_sum([0] * 40), helper.message_sum([0] * 40))

    def test_many_rows(self):
        for many in (1, 2, 44, 92, 1000):
            octets = helper.some_bytes(many)
            self.assertEqual(sums.message_sum(octets), helper.message_sum(octets))
