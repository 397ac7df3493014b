import unittest

from cellstream.stream import Stream
from tests import helper


def paced_stream(pace, slack):
    stream = helper.sure_stream()
    assert stream.open_way(1, 40, pace, slack) == 0
    return stream


def early_after(pace, slack, times):
    """For each time at which a cell comes, how many have been early by then."""
    stream = paced_stream(pace, slack)
    early = []
    for now in times:
        helper.feed(stream, helper.cell(1, 40), now)
        early.append(stream.early)
    return early


class Fate(unittest.TestCase):
    def test_idle(self):
        stream = helper.sure_stream()
        helper.feed(stream, helper.idle_cells(3))
        self.assertEqual(helper.counts(stream), {"used": 3})

    def test_idle_is_all_32_bits(self):
        for head in (0, 3, 0x10000001, 0x80000001, 0x00100001, 0x00000011):
            stream = helper.sure_stream()
            helper.feed(stream, helper.cell_with_head(head))
            self.assertEqual(helper.counts(stream), {"used": 1, "astray": 1})

    def test_user_four_or_more(self):
        for user in range(8):
            stream = helper.sure_stream((1, 40))
            helper.feed(stream, helper.cell(1, 40, user, helper.filled([1])) + helper.cell(9, 40, user))
            if user >= 4:
                self.assertEqual(helper.counts(stream), {"used": 2})
            elif user % 2 == 1:
                self.assertEqual(helper.counts(stream), {"used": 2, "astray": 1, "right": 1})
            else:
                self.assertEqual(helper.counts(stream), {"used": 2, "astray": 1})

    def test_user_four_or_more_does_not_touch_the_way(self):
        stream = paced_stream(100, 0)
        cells = helper.message(1, 40, helper.some_bytes(60))
        helper.feed(stream, helper.cell(1, 40, 5) + cells[:53] + helper.cell(1, 40, 4) + helper.cell(1, 40, 7))
        helper.feed(stream, cells[53:], 100)
        self.assertEqual(helper.counts(stream), {"used": 5, "right": 1})

    def test_astray(self):
        stream = helper.sure_stream((1, 40))
        for path, channel in ((0, 40), (2, 40), (1, 41), (1, 0), (0, 0), (255, 65535), (129, 40)):
            helper.feed(stream, helper.cell(path, channel, 1, helper.filled([1])))
        self.assertEqual(helper.counts(stream), {"used": 7, "astray": 7})

    def test_the_first_bits_and_rank_are_not_looked_at(self):
        stream = helper.sure_stream((1, 40))
        for first in range(16):
            helper.feed(stream, helper.cell(1, 40, 1, helper.filled([first + 1]), first % 2, first))
        self.assertEqual(helper.counts(stream), {"used": 16, "right": 16})

    def test_highest_way(self):
        stream = helper.sure_stream((255, 65535), (0, 32))
        helper.feed(stream, helper.message(255, 65535, [1]) + helper.message(0, 32, [2]))
        self.assertEqual(stream.waiting, [(255, 65535, [1]), (0, 32, [2])])

    def test_the_way_is_asked_with_the_last_byte(self):
        stream = helper.sure_stream()
        octets = helper.message(1, 40, [6])
        helper.feed(stream, octets[:52])
        stream.open_way(1, 40, 0, 0)
        helper.feed(stream, octets[52:] + octets[:52])
        stream.close_way(1, 40)
        helper.feed(stream, octets[52:])
        self.assertEqual(helper.counts(stream), {"used": 2, "astray": 1, "right": 1})


class Due(unittest.TestCase):
    def test_no_due_at_first(self):
        self.assertEqual(early_after(4294967295, 0, [0]), [0])

    def test_pace(self):
        self.assertEqual(early_after(10, 0, [5, 14]), [0, 1])
        self.assertEqual(early_after(10, 0, [5, 15]), [0, 0])

    def test_slack(self):
        self.assertEqual(early_after(10, 3, [5, 11]), [0, 1])
        self.assertEqual(early_after(10, 3, [5, 12]), [0, 0])

    def test_within_slack_the_due_goes_on_from_itself(self):
        # Dues: 10, 20, 30: slack isn't gained anew by each cell.
        self.assertEqual(early_after(10, 3, [0, 7, 16]), [0, 0, 1])
        self.assertEqual(early_after(10, 3, [0, 7, 17, 26, 27]), [0, 0, 0, 1, 1])

    def test_late_the_due_goes_on_from_now(self):
        self.assertEqual(early_after(10, 0, [0, 50, 59, 60]), [0, 0, 1, 1])
        self.assertEqual(early_after(10, 0, [0, 10, 19]), [0, 0, 1])

    def test_early_cells_leave_the_due(self):
        self.assertEqual(early_after(10, 0, [0, 1, 2, 9, 10]), [0, 1, 2, 3, 3])

    def test_time_may_go_back(self):
        self.assertEqual(early_after(0, 0, [10, 9, 10]), [0, 1, 1])
        self.assertEqual(early_after(0, 1, [10, 9, 8]), [0, 0, 1])

    def test_no_pace(self):
        self.assertEqual(early_after(0, 0, [7, 7, 7]), [0, 0, 0])

    def test_a_burst(self):
        self.assertEqual(early_after(10, 25, [0, 0, 0, 0, 0]), [0, 0, 0, 1, 2])

    def test_highest_numbers(self):
        top = 2 ** 63 - 1
        self.assertEqual(early_after(2 ** 32 - 1, 2 ** 32 - 1, [top, top, top]), [0, 0, 1])

    def test_each_way_has_its_own(self):
        stream = paced_stream(10, 0)
        stream.open_way(1, 41, 10, 0)
        helper.feed(stream, helper.cell(1, 40) + helper.cell(1, 41))
        self.assertEqual(helper.counts(stream), {"used": 2})

    def test_now_of_the_last_byte(self):
        for now, counted in ((9, {"used": 2, "early": 1}), (10, {"used": 2})):
            stream = paced_stream(10, 0)
            helper.feed(stream, helper.cell(1, 40), 0)
            helper.feed(stream, helper.cell(1, 40)[:52], 19 - now)
            helper.feed(stream, helper.cell(1, 40)[52:], now)
            self.assertEqual(helper.counts(stream), counted)

    def test_early_cells_are_left_out(self):
        stream = paced_stream(10, 0)
        cells = helper.message(1, 40, helper.some_bytes(60))
        helper.feed(stream, cells[:53], 0)
        helper.feed(stream, helper.cell(1, 40, 0) + helper.cell(1, 40, 1), 9)
        helper.feed(stream, cells[53:], 10)
        self.assertEqual(helper.counts(stream), {"used": 4, "early": 2, "right": 1})
        self.assertEqual(stream.waiting, [(1, 40, helper.some_bytes(60))])

    def test_idle_and_astray_cells_have_no_due(self):
        stream = Stream()
        stream.open_way(1, 40, 10, 0)
        helper.feed(stream, helper.idle_cells(9) + helper.cell(2, 40) * 2)
        self.assertIsNone(stream.ways[(1, 40)].due)
