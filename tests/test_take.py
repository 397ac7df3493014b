import unittest

from cellstream.stream import Stream
from tests import helper

OPEN = [1, 1, 40, 0, 0]
SURE = helper.bytes_call(helper.idle_cells(7))
MOST = 2147483647


def bring(data, path=1, channel=40):
    return helper.bytes_call(helper.message(path, channel, data))


class Refused(unittest.TestCase):
    def test_most_below_0(self):
        for most in (-1, -2, -2147483648):
            self.assertEqual(helper.asked([4, most]), [[-2]])
            self.assertEqual(helper.asked(OPEN, SURE, bring([5]), [4, most])[3:], [[-2]])

    def test_most_below_0_changes_nothing(self):
        self.assertEqual(helper.asked(OPEN, SURE, bring([5]), [4, -1], [4, 1])[3:], [[-2], [1, 1, 40, 5]])

    def test_longer_than_most(self):
        data = helper.some_bytes(60)
        calls = OPEN, SURE, bring(data), [4, 0], [4, 1], [4, 59], [4, 60], [4, 60]
        self.assertEqual(helper.asked(*calls)[3:], [[-1], [-1], [-1], [60, 1, 40] + data, [0]])

    def test_a_shorter_one_behind_is_not_looked_at(self):
        calls = OPEN, SURE, bring([1, 2, 3]), bring([4]), [4, 2], [4, 3], [4, 2]
        self.assertEqual(helper.asked(*calls)[4:], [[-1], [3, 1, 40, 1, 2, 3], [1, 1, 40, 4]])

    def test_refused_it_still_fills_its_place(self):
        stream = helper.sure_stream((1, 40))
        helper.feed(stream, helper.message(1, 40, [1, 2]) * 64)
        self.assertEqual(stream.take_message(1), [-1])
        self.assertEqual(stream.take_message(-1), [-2])
        self.assertEqual(stream.waiting_bytes, 128)
        helper.feed(stream, helper.message(1, 40, [3]))
        self.assertEqual(stream.dropped, 1)


class NoMessage(unittest.TestCase):
    def test_0_alone(self):
        for most in (0, 1, MOST):
            self.assertEqual(helper.asked([4, most]), [[0]])

    def test_not_before_the_end(self):
        cells = helper.message(1, 40, helper.some_bytes(60))
        calls = OPEN, SURE, helper.bytes_call(cells[:-1]), [4, MOST], helper.bytes_call(cells[-1:]), [4, MOST]
        self.assertEqual(helper.asked(*calls)[3:], [[0], [0], [60, 1, 40] + helper.some_bytes(60)])

    def test_wrong_ones_do_not_wait(self):
        wrong = helper.bytes_call(helper.cells_of(1, 40, helper.filled([1], wrong=1)))
        self.assertEqual(helper.asked(OPEN, SURE, wrong, [4, MOST])[3:], [[0]])

    def test_begin(self):
        self.assertEqual(helper.asked(OPEN, SURE, bring([5]), [0], [4, MOST])[3:], [[0], [0]])


class Taken(unittest.TestCase):
    def test_just_as_long_as_most(self):
        for length in (1, 39, 40, 41, 88, 89, 1000):
            data = helper.some_bytes(length)
            calls = OPEN, SURE, bring(data), [4, length - 1], [4, length], [4, length]
            self.assertEqual(helper.asked(*calls)[3:], [[-1], [length, 1, 40] + data, [0]])

    def test_longest(self):
        stream = helper.sure_stream((1, 40))
        data = helper.some_bytes(65535)
        helper.feed(stream, helper.message(1, 40, data))
        self.assertEqual(stream.take_message(65534), [-1])
        self.assertEqual(stream.take_message(65535), [65535, 1, 40] + data)

    def test_in_their_order_with_their_ways(self):
        ways = ((1, 40), (0, 32), (255, 65535), (40, 256), (1, 40))
        calls = [[1, path, channel, 0, 0] for path, channel in ways[:4]] + [SURE]
        calls += [bring([place, 7], path, channel) for place, (path, channel) in enumerate(ways)]
        calls += [[4, MOST]] * 6
        expected = [[2, path, channel, place, 7] for place, (path, channel) in enumerate(ways)] + [[0]]
        self.assertEqual(helper.asked(*calls)[-6:], expected)

    def test_order_is_that_of_their_ends(self):
        first = helper.message(1, 40, helper.some_bytes(60))
        octets = first[:53] + helper.message(2, 40, [9]) + first[53:]
        calls = OPEN, [1, 2, 40, 0, 0], SURE, helper.bytes_call(octets), [4, MOST], [4, MOST]
        self.assertEqual(helper.asked(*calls)[4:], [[1, 2, 40, 9], [60, 1, 40] + helper.some_bytes(60)])

    def test_more_come_behind_those_that_wait(self):
        calls = OPEN, SURE, bring([1]), bring([2]), [4, 1], bring([3]), [4, 1], [4, 1], [4, 1]
        self.assertEqual(helper.asked(*calls)[4:], [[1, 1, 40, 1], [0], [1, 1, 40, 2], [1, 1, 40, 3], [0]])

    def test_bytes_that_are_0(self):
        self.assertEqual(helper.asked(OPEN, SURE, bring([0, 0]), [4, 2])[3:], [[2, 1, 40, 0, 0]])

    def test_a_way_closed_since(self):
        calls = OPEN, SURE, bring([5]), [2, 1, 40], [4, MOST], [4, MOST]
        self.assertEqual(helper.asked(*calls)[3:], [[0], [1, 1, 40, 5], [0]])

    def test_a_way_closed_and_opened_since(self):
        calls = OPEN, SURE, bring([5]), [2, 1, 40], OPEN, bring([6]), [4, MOST], [4, MOST]
        self.assertEqual(helper.asked(*calls)[6:], [[1, 1, 40, 5], [1, 1, 40, 6]])

    def test_what_is_taken_is_still_counted(self):
        calls = OPEN, SURE, bring([5]), [4, 1], [7]
        self.assertEqual(helper.asked(*calls)[4], [0, 2, 1, 0, 0, 0, 0, 1, 0, 0])


class Room(unittest.TestCase):
    def test_for_the_sixty_fourth(self):
        stream = helper.sure_stream((1, 40))
        helper.feed(stream, helper.message(1, 40, [1]) * 65)
        self.assertEqual((stream.right, stream.dropped), (65, 1))
        self.assertEqual(stream.take_message(1), [1, 1, 40, 1])
        helper.feed(stream, helper.message(1, 40, [2]) + helper.message(1, 40, [3]))
        self.assertEqual((stream.right, stream.dropped), (67, 2))
        taken = [stream.take_message(1) for _ in range(65)]
        self.assertEqual(taken, [[1, 1, 40, 1]] * 63 + [[1, 1, 40, 2], [0]])

    def test_sixty_four_within_one_list(self):
        calls = [OPEN, SURE] + [bring([number]) for number in range(65)] + [[4, 1]] * 2 + [bring([65])]
        given = helper.asked(*calls, *[[4, 1]] * 64)
        expected = [[1, 1, 40, number] for number in range(2, 64)] + [[1, 1, 40, 65], [0]]
        self.assertEqual(given[-64:], expected)

    def test_for_1048575_bytes(self):
        stream = helper.sure_stream((1, 40))
        longest = helper.message(1, 40, helper.some_bytes(65535))
        helper.feed(stream, helper.message(1, 40, [1]) + longest * 15 + helper.message(1, 40, [2] * 65535))
        self.assertEqual((stream.right, stream.dropped), (17, 0))
        helper.feed(stream, helper.message(1, 40, [3] * 15))
        self.assertEqual(stream.dropped, 1)
        self.assertEqual(stream.take_message(1), [1, 1, 40, 1])
        helper.feed(stream, helper.message(1, 40, [4] * 16))
        self.assertEqual(stream.dropped, 2)
        helper.feed(stream, helper.message(1, 40, [5] * 15))
        self.assertEqual((stream.right, stream.dropped), (20, 2))
        self.assertEqual(stream.take_message(65535)[:3], [65535, 1, 40])
        helper.feed(stream, longest)
        self.assertEqual((stream.right, stream.dropped), (21, 2))
        helper.feed(stream, helper.message(1, 40, [6]))
        self.assertEqual((stream.right, stream.dropped), (22, 3))

    def test_none_is_left_when_all_are_taken(self):
        stream = helper.sure_stream((1, 40))
        helper.feed(stream, helper.message(1, 40, [1, 2, 3]) * 5)
        for _ in range(5):
            self.assertEqual(stream.take_message(3), [3, 1, 40, 1, 2, 3])
        self.assertEqual((stream.waiting, stream.waiting_bytes), ([], 0))
        self.assertEqual(Stream().take_message(3), stream.take_message(3))
