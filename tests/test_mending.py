import unittest

from cellstream.finder import SURE
from tests import helper

IDLE = helper.idle_cell()


class Mending(unittest.TestCase):
    def test_any_one_bit(self):
        for place in range(40):
            stream = helper.sure_stream((0xA5, 0x1234))
            cells = helper.cells_of(0xA5, 0x1234, helper.filled([1, 2, 3]))
            helper.feed(stream, helper.turn_bits(cells, place))
            self.assertEqual(helper.counts(stream), {"used": 1, "mended": 1, "right": 1})
            self.assertEqual(stream.waiting, [(0xA5, 0x1234, [1, 2, 3])])

    def test_mended_to_idle(self):
        stream = helper.sure_stream()
        helper.feed(stream, helper.turn_bits(IDLE, 31))
        self.assertEqual(helper.counts(stream), {"used": 1, "mended": 1})

    def test_two_wrong_bits_are_lost(self):
        for first in range(40):
            for second in range(first):
                stream = helper.sure_stream()
                helper.feed(stream, helper.turn_bits(IDLE, first, second)[:5])
                self.assertEqual(self.fate_of(stream), self.expected(first, second))

    def fate_of(self, stream):
        helper.feed(stream, [0] * 48)
        return helper.counts(stream)

    def expected(self, first, second):
        """Two wrong bits may look like one other; then that one is turned, and the cell's astray."""
        turned = helper.turn_bits(IDLE, first, second)[:5]
        for place in range(40):
            head = helper.turn_bits(turned, place)
            if helper.head_sum(int.from_bytes(bytes(head[:4]), "big")) == head[4]:
                user = head[3] >> 1 & 7
                return {"used": 1, "mended": 1} if user > 3 else {"used": 1, "mended": 1, "astray": 1}
        return {"lost": 1}

    def test_a_lost_cell_is_left_out(self):
        stream = helper.sure_stream((1, 40))
        octets = helper.filled(helper.some_bytes(100))
        cells = helper.cells_of(1, 40, octets)
        helper.feed(stream, helper.lost_cell() + cells[:53] + helper.lost_cell() + cells[53:])
        self.assertEqual(helper.counts(stream), {"used": 3, "lost": 2, "right": 1})

    def test_second_wrong_head_right_behind(self):
        stream = helper.sure_stream()
        helper.feed(stream, helper.turn_bits(IDLE, 2) * 2)
        self.assertEqual(helper.counts(stream), {"used": 1, "mended": 1, "lost": 1})

    def test_not_mending_behind_a_lost_one(self):
        stream = helper.sure_stream()
        helper.feed(stream, helper.lost_cell() + helper.turn_bits(IDLE, 2))
        self.assertEqual(helper.counts(stream), {"lost": 2})

    def test_not_mending_till_a_right_head(self):
        stream = helper.sure_stream()
        wrong = helper.turn_bits(IDLE, 2)
        helper.feed(stream, wrong * 4 + IDLE + wrong * 2 + IDLE + wrong)
        self.assertEqual(stream.finder.state, SURE)
        self.assertEqual(helper.counts(stream), {"used": 5, "mended": 3, "lost": 4})

    def test_wrong_bits_behind_the_head_are_not_looked_at(self):
        stream = helper.sure_stream()
        helper.feed(stream, helper.turn_bits(IDLE, 40, 100, 423))
        self.assertEqual(helper.counts(stream), {"used": 1})
