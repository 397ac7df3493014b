import unittest

from cellstream.finder import DOUBTFUL, HUNTING, SURE
from cellstream.stream import Stream
from tests import helper

IDLE = helper.idle_cell()


def state_after(octets):
    stream = Stream()
    helper.feed(stream, octets)
    return stream.finder.state


class Bytes(unittest.TestCase):
    def test_how_many(self):
        self.assertEqual(Stream().take_bytes(0, []), 0)
        self.assertEqual(Stream().take_bytes(0, [0] * 65536), 0)
        self.assertEqual(Stream().take_bytes(0, [0] * 65537), -2)

    def test_now(self):
        self.assertEqual(Stream().take_bytes(2 ** 63 - 1, [1]), 0)
        self.assertEqual(Stream().take_bytes(2 ** 63, [1]), -2)
        self.assertEqual(Stream().take_bytes(2 ** 64 - 1, []), -2)

    def test_refused_bytes_do_not_come(self):
        stream = Stream()
        self.assertEqual(stream.take_bytes(2 ** 63, IDLE * 7), -2)
        self.assertEqual(stream.finder.state, HUNTING)
        self.assertEqual(stream.take_bytes(0, (IDLE * 1300)[:65537]), -2)
        self.assertEqual(stream.finder.state, HUNTING)
        helper.feed(stream, IDLE[:3])
        stream.take_bytes(2 ** 63, [1, 2, 3])
        helper.feed(stream, IDLE[3:5])
        self.assertEqual(stream.finder.state, DOUBTFUL)

    def test_the_bytes_are_left_as_they_were(self):
        octets = IDLE * 8 + helper.message(1, 40, [3])
        before = list(octets)
        stream = Stream()
        stream.open_way(1, 40, 0, 0)
        stream.take_bytes(0, octets)
        self.assertEqual(octets, before)


class Hunting(unittest.TestCase):
    def test_five_bytes_are_needed(self):
        self.assertEqual(state_after(IDLE[:4]), HUNTING)
        self.assertEqual(state_after(IDLE[:5]), DOUBTFUL)
        # Five bytes whose first are 0 must all have come: what's not there is no 0.
        self.assertEqual(state_after([0, 0, 1, 0x52]), HUNTING)

    def test_found_at_every_byte(self):
        for many in range(54):
            self.assertEqual(state_after([0] * many + IDLE[:4]), HUNTING)
            self.assertEqual(state_after([0] * many + IDLE[:5]), DOUBTFUL)

    def test_any_head_will_do(self):
        self.assertEqual(state_after(helper.cell(200, 65535, 7, rank=1, first=15)[:5]), DOUBTFUL)
        self.assertEqual(state_after([0, 0, 0, 0, 0x55]), DOUBTFUL)

    def test_no_head_is_mended(self):
        self.assertEqual(state_after(helper.turn_bits(IDLE, 39)[:5]), HUNTING)

    def test_nothing_is_counted(self):
        stream = Stream()
        helper.feed(stream, [0] * 5000)
        self.assertEqual(stream.finder.state, HUNTING)
        self.assertEqual(helper.counts(stream), {})


class Doubtful(unittest.TestCase):
    def test_sure_with_the_last_byte_of_the_sixth(self):
        self.assertEqual(state_after(IDLE * 6), DOUBTFUL)
        self.assertEqual(state_after(IDLE * 6 + IDLE[:5]), DOUBTFUL)
        self.assertEqual(state_after((IDLE * 7)[:-1]), DOUBTFUL)
        self.assertEqual(state_after(IDLE * 7), SURE)

    def test_the_bytes_behind_a_head_are_no_head(self):
        body = IDLE[:5] * 9 + [0] * 3
        self.assertEqual(state_after(helper.cell(1, 40, 0, body) * 7), SURE)

    def test_a_wrong_head_anywhere(self):
        for right in range(1, 7):
            wrong = helper.turn_bits(IDLE, 7)
            self.assertEqual(state_after(IDLE * right + wrong[:4]), DOUBTFUL)
            self.assertEqual(state_after(IDLE * right + wrong[:5]), HUNTING)

    def test_the_wrong_head_is_gone(self):
        # The wrong head's last four bytes would be a right one with the byte behind.
        wrong = [9] + IDLE[:4]
        self.assertEqual(state_after(IDLE + wrong + IDLE[4:5]), HUNTING)
        self.assertEqual(state_after(IDLE + wrong + IDLE[:5]), DOUBTFUL)

    def test_hunting_goes_on_right_behind_the_wrong_head(self):
        self.assertEqual(state_after(IDLE + [9] * 5 + IDLE * 6), DOUBTFUL)
        self.assertEqual(state_after(IDLE + [9] * 5 + IDLE * 7), SURE)

    def test_right_heads_are_counted_anew(self):
        self.assertEqual(state_after(IDLE * 6 + [9] * 5 + IDLE * 6), DOUBTFUL)
        self.assertEqual(state_after(IDLE * 6 + [9] * 5 + IDLE * 7), SURE)

    def test_cells_are_not_used(self):
        stream = Stream()
        stream.open_way(1, 40, 0, 0)
        helper.feed(stream, helper.message(1, 40, [4]) * 7)
        self.assertEqual(stream.finder.state, SURE)
        self.assertEqual(helper.counts(stream), {})
        self.assertEqual(stream.waiting, [])
        helper.feed(stream, helper.message(1, 40, [4]))
        self.assertEqual(helper.counts(stream), {"used": 1, "right": 1})


class Sure(unittest.TestCase):
    def test_the_seventh_wrong_head(self):
        stream = helper.sure_stream()
        helper.feed(stream, helper.lost_cell() * 6 + helper.lost_cell()[:4])
        self.assertEqual(stream.finder.state, SURE)
        self.assertEqual(helper.counts(stream), {"lost": 6})
        helper.feed(stream, helper.lost_cell()[4:5])
        self.assertEqual(stream.finder.state, HUNTING)
        helper.feed(stream, [0] * 100)
        self.assertEqual(helper.counts(stream), {"lost": 6})

    def test_a_mended_head_is_a_wrong_one(self):
        stream = helper.sure_stream()
        helper.feed(stream, helper.turn_bits(IDLE, 5) * 7)
        self.assertEqual(stream.finder.state, HUNTING)
        self.assertEqual(helper.counts(stream), {"used": 1, "mended": 1, "lost": 5})

    def test_a_right_head_between(self):
        stream = helper.sure_stream()
        helper.feed(stream, helper.lost_cell() * 6 + IDLE + helper.lost_cell() * 6)
        self.assertEqual(stream.finder.state, SURE)
        self.assertEqual(helper.counts(stream), {"used": 1, "lost": 12})
        helper.feed(stream, helper.lost_cell())
        self.assertEqual(stream.finder.state, HUNTING)

    def test_hunting_from_nothing_behind_the_seventh(self):
        for front, state in ((IDLE[4:5], HUNTING), (IDLE[:5], DOUBTFUL)):
            stream = helper.sure_stream()
            helper.feed(stream, helper.lost_cell() * 6 + [9] + IDLE[:4] + front)
            self.assertEqual(stream.finder.state, state)

    def test_sure_again(self):
        stream = helper.sure_stream()
        helper.feed(stream, helper.lost_cell() * 6 + [9] * 5 + IDLE * 6)
        self.assertEqual(stream.finder.state, DOUBTFUL)
        helper.feed(stream, IDLE)
        self.assertEqual(stream.finder.state, SURE)
        # Sure anew, it mends anew and no wrong head is behind it.
        helper.feed(stream, helper.turn_bits(IDLE, 0) + helper.lost_cell() * 5)
        self.assertEqual(stream.finder.state, SURE)
        self.assertEqual(helper.counts(stream), {"used": 1, "mended": 1, "lost": 11})

    def test_counted_with_the_last_byte(self):
        for octets, counted in (
            (IDLE, {"used": 1}),
            (helper.turn_bits(IDLE, 20), {"used": 1, "mended": 1}),
            (helper.lost_cell(), {"lost": 1}),
            (helper.cell(1, 40), {"used": 1, "astray": 1}),
        ):
            stream = helper.sure_stream()
            helper.feed(stream, octets[:52])
            self.assertEqual(helper.counts(stream), {})
            helper.feed(stream, octets[52:])
            self.assertEqual(helper.counts(stream), counted)


class Split(unittest.TestCase):
    def test_bytes_split_over_calls(self):
        octets = [0, 7] + IDLE * 7 + helper.message(1, 40, helper.some_bytes(100))
        octets += helper.turn_bits(IDLE, 11) + helper.lost_cell() + helper.cell(8, 80)
        for size in (1, 2, 5, 48, 52, 53, 54, 1000):
            stream = Stream()
            stream.open_way(1, 40, 0, 0)
            for start in range(0, len(octets), size):
                self.assertEqual(stream.take_bytes(0, octets[start:start + size]), 0)
                self.assertEqual(stream.take_bytes(0, []), 0)
            counted = {"used": 5, "mended": 1, "lost": 1, "astray": 1, "right": 1}
            self.assertEqual(helper.counts(stream), counted)
            self.assertEqual(stream.waiting, [(1, 40, helper.some_bytes(100))])
