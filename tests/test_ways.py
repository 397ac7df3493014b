import unittest

from cellstream.stream import Stream
from tests import helper


def full_stream():
    stream = Stream()
    for path in range(64):
        assert stream.open_way(path, 40, 0, 0) == 0
    return stream


class Open(unittest.TestCase):
    def test_bounds(self):
        for path, channel in ((0, 32), (255, 32), (0, 65535), (255, 65535)):
            self.assertEqual(Stream().open_way(path, channel, 0, 0), 0)
        for path, channel in ((-1, 32), (256, 32), (0, 31), (0, 65536), (0, 0), (0, -32), (-1, 31)):
            stream = Stream()
            self.assertEqual(stream.open_way(path, channel, 0, 0), -2)
            self.assertEqual(stream.ways, {})

    def test_open_twice(self):
        stream = Stream()
        self.assertEqual(stream.open_way(3, 40, 0, 0), 0)
        self.assertEqual(stream.open_way(3, 40, 1, 1), -3)

    def test_path_and_channel_both_tell_the_way(self):
        stream = Stream()
        for path, channel in ((3, 40), (4, 40), (3, 41), (40, 300), (44, 44)):
            self.assertEqual(stream.open_way(path, channel, 0, 0), 0)

    def test_sixty_four(self):
        stream = full_stream()
        self.assertEqual(stream.open_way(64, 40, 0, 0), -4)
        self.assertEqual(len(stream.ways), 64)
        self.assertEqual(stream.close_way(5, 40), 0)
        self.assertEqual(stream.open_way(64, 40, 0, 0), 0)
        self.assertEqual(stream.open_way(65, 40, 0, 0), -4)

    def test_the_first_refusal_is_told(self):
        stream = full_stream()
        self.assertEqual(stream.open_way(256, 40, 0, 0), -2)
        self.assertEqual(stream.open_way(5, 31, 0, 0), -2)
        self.assertEqual(stream.open_way(5, 40, 0, 0), -3)

    def test_refused_open_changes_nothing(self):
        stream = helper.sure_stream()
        stream.open_way(1, 40, 10, 0)
        octets = helper.message(1, 40, helper.some_bytes(60))
        helper.feed(stream, octets[:53])
        self.assertEqual(stream.open_way(1, 40, 0, 1000), -3)
        helper.feed(stream, octets[53:], now=9)
        self.assertEqual(helper.counts(stream), {"used": 2, "early": 1})
        helper.feed(stream, octets[53:], now=10)
        self.assertEqual(stream.waiting, [(1, 40, helper.some_bytes(60))])


class Close(unittest.TestCase):
    def test_bounds(self):
        for path, channel in ((0, 32), (255, 32), (0, 65535), (255, 65535)):
            self.assertEqual(Stream().close_way(path, channel), -3)
        for path, channel in ((-1, 32), (256, 32), (0, 31), (0, 65536), (0, 0), (-1, 31)):
            self.assertEqual(Stream().close_way(path, channel), -2)

    def test_close(self):
        stream = Stream()
        stream.open_way(3, 40, 0, 0)
        self.assertEqual(stream.close_way(3, 41), -3)
        self.assertEqual(stream.close_way(4, 40), -3)
        self.assertEqual(stream.close_way(3, 40), 0)
        self.assertEqual(stream.close_way(3, 40), -3)
        self.assertEqual(stream.open_way(3, 40, 0, 0), 0)

    def test_others_stay_open(self):
        stream = full_stream()
        stream.close_way(7, 40)
        self.assertEqual(len(stream.ways), 63)
        self.assertEqual(stream.open_way(8, 40, 0, 0), -3)

    def test_refused_close_changes_nothing(self):
        stream = helper.sure_stream((1, 40))
        octets = helper.message(1, 40, helper.some_bytes(60))
        helper.feed(stream, octets[:53])
        self.assertEqual(stream.close_way(1, 31), -2)
        self.assertEqual(stream.close_way(2, 40), -3)
        helper.feed(stream, octets[53:])
        self.assertEqual(stream.waiting, [(1, 40, helper.some_bytes(60))])

    def test_cells_of_a_closed_way_are_astray(self):
        stream = helper.sure_stream((1, 40))
        stream.close_way(1, 40)
        helper.feed(stream, helper.message(1, 40, [5]))
        self.assertEqual(helper.counts(stream), {"used": 1, "astray": 1})

    def test_what_waits_is_kept(self):
        stream = helper.sure_stream((1, 40))
        helper.feed(stream, helper.message(1, 40, [5]))
        stream.close_way(1, 40)
        self.assertEqual(stream.waiting, [(1, 40, [5])])

    def test_opened_anew_nothing_is_put_together(self):
        stream = helper.sure_stream((1, 40))
        octets = helper.message(1, 40, helper.some_bytes(60))
        helper.feed(stream, octets[:53])
        stream.close_way(1, 40)
        stream.open_way(1, 40, 0, 0)
        helper.feed(stream, octets[53:] + helper.message(1, 40, [9]))
        self.assertEqual(helper.counts(stream), {"used": 3, "right": 1, "wrong": 1})
        self.assertEqual(stream.waiting, [(1, 40, [9])])

    def test_opened_anew_there_is_no_due(self):
        stream = helper.sure_stream()
        stream.open_way(1, 40, 1000, 0)
        helper.feed(stream, helper.cell(1, 40) * 2)
        self.assertEqual(stream.early, 1)
        stream.close_way(1, 40)
        stream.open_way(1, 40, 1000, 0)
        helper.feed(stream, helper.cell(1, 40))
        self.assertEqual(stream.early, 1)
        self.assertEqual(stream.ways[(1, 40)].due, 1000)
