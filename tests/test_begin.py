import unittest

from cellstream.finder import HUNTING, SURE
from cellstream.stream import Stream
from tests import helper


def busy_stream():
    """A stream in which everything that can be counted has been."""
    stream = helper.sure_stream((1, 40), (1, 41), (2, 50))
    stream.close_way(2, 50)
    stream.open_way(2, 50, 100, 0)
    helper.feed(stream, helper.message(1, 40, [7] * 10) * 65)
    helper.feed(stream, helper.cells_of(1, 41, helper.filled([1], wrong=1)))
    helper.feed(stream, helper.cell(2, 50) * 2 + helper.cell(9, 99))
    helper.feed(stream, helper.turn_bits(helper.idle_cell(), 39) + helper.lost_cell() + [0, 0, 0])
    return stream


class Begin(unittest.TestCase):
    def assert_new(self, stream):
        self.assertEqual(stream.finder.state, HUNTING)
        self.assertEqual(stream.ways, {})
        self.assertEqual(stream.waiting, [])
        self.assertEqual(stream.waiting_bytes, 0)
        self.assertEqual(helper.counts(stream), {})

    def test_a_new_stream(self):
        self.assert_new(Stream())

    def test_answer(self):
        self.assertEqual(Stream().begin(), 0)

    def test_all_is_as_at_the_beginning(self):
        stream = busy_stream()
        self.assertEqual(stream.finder.state, SURE)
        self.assertEqual(
            helper.counts(stream),
            {"used": 70, "mended": 1, "lost": 1, "astray": 1, "early": 1, "right": 65, "wrong": 1, "dropped": 1},
        )
        self.assertEqual(stream.begin(), 0)
        self.assert_new(stream)

    def test_bytes_from_before_are_gone(self):
        stream = Stream()
        helper.feed(stream, helper.idle_cell()[:4])
        stream.begin()
        helper.feed(stream, helper.idle_cell()[4:5])
        self.assertEqual(stream.finder.state, HUNTING)

    def test_it_goes_on_like_a_new_one(self):
        stream = busy_stream()
        stream.begin()
        for path in range(64):
            self.assertEqual(stream.open_way(path, 40, 0, 0), 0)
        helper.feed(stream, helper.idle_cells(7) + helper.message(1, 40, [1, 2, 3]))
        self.assertEqual(helper.counts(stream), {"used": 1, "right": 1})
        self.assertEqual(stream.waiting, [(1, 40, [1, 2, 3])])

    def test_runs_of_right_and_wrong_heads_are_forgotten(self):
        stream = helper.sure_stream()
        helper.feed(stream, helper.lost_cell() * 6)
        stream.begin()
        helper.feed(stream, helper.idle_cells(7) + helper.turn_bits(helper.idle_cell(), 9))
        self.assertEqual(stream.finder.state, SURE)
        self.assertEqual(helper.counts(stream), {"used": 1, "mended": 1})
