import unittest

from tests import helper


def after(octets):
    """A stream with the way 1, 40 open, after these bytes."""
    stream = helper.sure_stream((1, 40))
    helper.feed(stream, octets)
    return stream


def ended(*args, **kwargs):
    """A stream after one message that helper.filled makes."""
    return after(helper.cells_of(1, 40, helper.filled(*args, **kwargs)))


class Right(unittest.TestCase):
    def test_lengths(self):
        for length in (1, 2, 39, 40, 41, 48, 87, 88, 89, 136, 137, 255, 256, 1000):
            data = helper.some_bytes(length)
            stream = ended(data)
            self.assertEqual(stream.waiting, [(1, 40, data)])
            self.assertEqual(stream.waiting_bytes, length)
            self.assertEqual((stream.right, stream.wrong, stream.dropped), (1, 0, 0))

    def test_longest(self):
        data = helper.some_bytes(65535)
        stream = ended(data)
        self.assertEqual(stream.waiting, [(1, 40, data)])
        self.assertEqual(helper.counts(stream), {"used": 1366, "right": 1})

    def test_two_bytes_are_not_looked_at(self):
        octets = helper.filled([1, 2])[:-8] + [0xAB, 0xCD, 0, 2]
        octets += list(helper.message_sum(octets).to_bytes(4, "big"))
        self.assertEqual(after(helper.cells_of(1, 40, octets)).waiting, [(1, 40, [1, 2])])

    def test_bytes_between_need_not_be_0(self):
        stream = ended(helper.some_bytes(40), length=3)
        self.assertEqual(stream.waiting, [(1, 40, helper.some_bytes(3))])

    def test_user_three_ends_it_and_two_does_not(self):
        octets = helper.filled(helper.some_bytes(100))
        stream = after(helper.cells_of(1, 40, octets, 3, 2))
        self.assertEqual(stream.waiting, [(1, 40, helper.some_bytes(100))])

    def test_not_before_its_end(self):
        octets = helper.message(1, 40, helper.some_bytes(100))
        self.assertEqual(helper.counts(after(octets[:-1])), {"used": 2})
        self.assertEqual(helper.counts(after(octets)), {"used": 3, "right": 1})

    def test_ways_are_put_together_apart(self):
        stream = helper.sure_stream((1, 40), (2, 40))
        first = helper.message(1, 40, helper.some_bytes(60, 1))
        second = helper.message(2, 40, helper.some_bytes(60, 2))
        helper.feed(stream, first[:53] + second[:53] + helper.idle_cell() + second[53:] + first[53:])
        self.assertEqual(stream.waiting, [(2, 40, helper.some_bytes(60, 2)), (1, 40, helper.some_bytes(60, 1))])

    def test_the_next_is_begun(self):
        stream = after(helper.message(1, 40, [1]) + helper.message(1, 40, helper.some_bytes(90)))
        self.assertEqual(stream.waiting, [(1, 40, [1]), (1, 40, helper.some_bytes(90))])


class Wrong(unittest.TestCase):
    def assert_wrong(self, stream):
        self.assertEqual((stream.right, stream.wrong, stream.dropped), (0, 1, 0))
        self.assertEqual(stream.waiting, [])
        helper.feed(stream, helper.message(1, 40, [8, 9]))
        self.assertEqual((stream.right, stream.wrong, stream.dropped), (1, 1, 0))
        self.assertEqual(stream.waiting, [(1, 40, [8, 9])])

    def test_any_bit_of_the_sum(self):
        for place in range(32):
            self.assert_wrong(ended([1, 2, 3], wrong=1 << place))

    def test_any_byte_before_the_sum(self):
        for place in range(92):
            octets = helper.filled(helper.some_bytes(60))
            octets[place] ^= 0x10
            self.assert_wrong(after(helper.cells_of(1, 40, octets)))

    def test_length_0(self):
        self.assert_wrong(ended([]))
        self.assert_wrong(ended([], cell_count=2, length=0))

    def test_one_cell_holds_40_bytes(self):
        self.assertEqual(ended([], cell_count=1, length=40).right, 1)
        self.assert_wrong(ended([], cell_count=1, length=41))

    def test_two_cells_hold_41_to_88_bytes(self):
        self.assert_wrong(ended([], cell_count=2, length=40))
        self.assertEqual(ended([], cell_count=2, length=41).right, 1)
        self.assertEqual(ended([], cell_count=2, length=88).right, 1)
        self.assert_wrong(ended([], cell_count=2, length=89))

    def test_length_far_too_great(self):
        self.assert_wrong(ended([1], length=65535))

    def test_a_cell_missing(self):
        octets = helper.message(1, 40, helper.some_bytes(140))
        self.assert_wrong(after(octets[:53] + octets[106:]))

    def test_more_than_1366_cells(self):
        self.assert_wrong(ended(helper.some_bytes(65535), cell_count=1367))

    def test_the_first_1366_cells_do_not_make_it_right(self):
        octets = helper.filled(helper.some_bytes(65535))
        for more in (1, 2):
            self.assert_wrong(after(helper.cells_of(1, 40, octets + [0] * 48 * more)))

    def test_the_last_1366_cells_do_not_make_it_right(self):
        self.assert_wrong(after(helper.cells_of(1, 40, [0] * 48 + helper.filled(helper.some_bytes(65535)))))

    def test_cells_past_the_most_are_left_out(self):
        stream = after(helper.cell(1, 40) * 1400)
        self.assertEqual(len(stream.ways[(1, 40)].octets), 48 * 1366)


class Dropped(unittest.TestCase):
    def test_sixty_four_messages(self):
        stream = after(helper.message(1, 40, [1]) * 64)
        self.assertEqual(helper.counts(stream), {"used": 64, "right": 64})
        helper.feed(stream, helper.message(1, 40, [2]))
        self.assertEqual(helper.counts(stream), {"used": 65, "right": 65, "dropped": 1})
        self.assertEqual(stream.waiting, [(1, 40, [1])] * 64)
        self.assertEqual(stream.waiting_bytes, 64)

    def test_the_next_is_begun_behind_a_dropped_one(self):
        stream = after(helper.message(1, 40, [1]) * 64 + helper.message(1, 40, helper.some_bytes(60)))
        helper.feed(stream, helper.message(1, 40, helper.some_bytes(60)))
        self.assertEqual(helper.counts(stream), {"used": 68, "right": 66, "dropped": 2})

    def test_a_wrong_message_is_not_dropped(self):
        stream = after(helper.message(1, 40, [1]) * 64)
        helper.feed(stream, helper.cells_of(1, 40, helper.filled([1], wrong=1)))
        self.assertEqual(helper.counts(stream), {"used": 65, "right": 64, "wrong": 1})

    def test_1048576_bytes(self):
        stream = helper.sure_stream((1, 40))
        longest = helper.message(1, 40, helper.some_bytes(65535))
        for _ in range(16):
            helper.feed(stream, longest)
        self.assertEqual((stream.right, stream.dropped, stream.waiting_bytes), (16, 0, 1048560))
        helper.feed(stream, helper.message(1, 40, [1] * 16))
        self.assertEqual((stream.right, stream.dropped, stream.waiting_bytes), (17, 1, 1048560))
        helper.feed(stream, helper.message(1, 40, [2] * 15))
        self.assertEqual((stream.right, stream.dropped, stream.waiting_bytes), (18, 1, 1048575))
        helper.feed(stream, helper.message(1, 40, [3]))
        self.assertEqual((stream.right, stream.dropped, stream.waiting_bytes), (19, 2, 1048575))
        self.assertEqual(stream.waiting[16:], [(1, 40, [2] * 15)])
