import unittest

from cellstream.stream import Stream
from tests import helper

OPEN = [1, 1, 40, 0, 0]


def open_stream():
    stream = Stream()
    assert stream.open_way(1, 40, 0, 0) == 0
    return stream


def full_stream():
    """A stream in which 4096 cells wait to be sent."""
    stream = open_stream()
    for length, count in ((65535, 1366), (65535, 1366), (1364 * 48 - 8, 1364)):
        assert stream.send_message(1, 40, [3] * length) == count
    return stream


def all_sent(stream):
    """The bytes of all cells that wait, till an idle one comes."""
    octets = []
    while True:
        answer = stream.put_out_cells(256)
        octets += answer[1:1 + 53 * answer[0]]
        if answer[0] < 256:
            return octets


class Refused(unittest.TestCase):
    def test_path_and_channel(self):
        for path, channel in ((-1, 40), (256, 40), (1, 31), (1, 65536), (1, -1), (-2147483648, 2147483647)):
            self.assertEqual(helper.asked(OPEN, helper.send_call(path, channel, [1]))[1], [-2])

    def test_path_and_channel_at_their_ends(self):
        for path, channel in ((0, 32), (255, 32), (0, 65535), (255, 65535)):
            sent = helper.send_call(path, channel, [1])
            self.assertEqual(helper.asked(sent, [1, path, channel, 0, 0], sent), [[-3], [0], [1]])

    def test_how_many_bytes(self):
        self.assertEqual(helper.asked(OPEN, [5, 1, 40, 0], helper.send_call(1, 40, [1])), [[0], [-2], [1]])
        self.assertEqual(open_stream().send_message(1, 40, [0] * 65535), 1366)
        self.assertEqual(open_stream().send_message(1, 40, [0] * 65536), -2)
        self.assertEqual(open_stream().send_message(1, 40, [0] * 70000), -2)

    def test_not_open(self):
        sent = helper.send_call(1, 40, [1])
        calls = sent, [1, 2, 40, 0, 0], [1, 1, 41, 0, 0], sent, OPEN, sent, [2, 1, 40], sent, [0], sent
        self.assertEqual(helper.asked(*calls), [[-3], [0], [0], [-3], [0], [1], [0], [-3], [0], [-3]])

    def test_4096_cells_at_most(self):
        stream = full_stream()
        self.assertEqual(stream.send_message(1, 40, [1]), -4)
        self.assertEqual(stream.put_out_cells(1)[0], 1)
        self.assertEqual(stream.send_message(1, 40, [1] * 41), -4)
        self.assertEqual(stream.send_message(1, 40, [1] * 40), 1)
        self.assertEqual(stream.send_message(1, 40, [1]), -4)

    def test_a_message_that_does_not_fit_is_not_sent_in_part(self):
        stream = open_stream()
        for _ in range(2):
            self.assertEqual(stream.send_message(1, 40, [3] * 65535), 1366)
        self.assertEqual(stream.send_message(1, 40, [4] * 65535), -4)
        self.assertEqual(stream.send_message(1, 40, [4] * (1364 * 48 - 7)), -4)
        self.assertEqual(all_sent(stream), helper.message(1, 40, [3] * 65535) * 2)

    def test_the_first_refusal_is_told(self):
        stream = full_stream()
        self.assertEqual(stream.send_message(256, 40, [1]), -2)
        self.assertEqual(stream.send_message(1, 31, [1]), -2)
        self.assertEqual(stream.send_message(1, 40, []), -2)
        self.assertEqual(stream.send_message(1, 40, [1] * 65536), -2)
        self.assertEqual(stream.send_message(2, 40, []), -2)
        self.assertEqual(stream.send_message(2, 40, [1] * 65536), -2)
        self.assertEqual(stream.send_message(2, 40, [1]), -3)
        self.assertEqual(stream.send_message(1, 40, [1]), -4)

    def test_nothing_is_changed(self):
        calls = [OPEN, helper.send_call(1, 40, [1])]
        calls += [helper.send_call(256, 40, [2]), helper.send_call(1, 31, [2]), [5, 1, 40, 0]]
        calls += [helper.send_call(2, 40, [2]), [7], [6, 2], [1, 2, 40, 0, 0]]
        expected = [[0], [1], [-2], [-2], [-2], [-3], [0] * 10]
        expected += [[1] + helper.message(1, 40, [1]) + helper.idle_cell(), [0]]
        self.assertEqual(helper.asked(*calls), expected)


class Cells(unittest.TestCase):
    def test_how_many(self):
        for length, count in ((1, 1), (39, 1), (40, 1), (41, 2), (48, 2), (88, 2), (89, 3), (136, 3), (137, 4)):
            data = helper.some_bytes(length)
            given = helper.asked(OPEN, helper.send_call(1, 40, data), [6, count + 1])
            self.assertEqual(given[1], [count])
            self.assertEqual(given[2], [count] + helper.message(1, 40, data) + helper.idle_cell())

    def test_longest(self):
        stream = open_stream()
        data = helper.some_bytes(65535)
        self.assertEqual(stream.send_message(1, 40, data), 1366)
        self.assertEqual(all_sent(stream), helper.message(1, 40, data))

    def test_one_cell_byte_by_byte(self):
        # The well-known examples of AAL5: 40 bytes 0, 40 bytes FFH, and the bytes 1 to 40.
        for data, end in (
            ([0] * 40, [0x86, 0x4D, 0x7F, 0x99]),
            ([255] * 40, [0xC5, 0x5E, 0x45, 0x7A]),
            (list(range(1, 41)), [0xBF, 0x67, 0x1E, 0xD0]),
        ):
            cell = [0x00, 0x10, 0x02, 0x82, 0x5A] + data + [0, 0, 0, 40] + end
            self.assertEqual(helper.asked(OPEN, helper.send_call(1, 40, data), [6, 1])[2], [1] + cell)

    def test_heads(self):
        for path, channel in ((0, 32), (255, 65535), (0xA5, 0x1234), (1, 0x8000), (128, 33)):
            calls = [1, path, channel, 0, 0], helper.send_call(path, channel, [1] * 100), [6, 3]
            octets = helper.asked(*calls)[2][1:]
            plain = (path << 20 | channel << 4).to_bytes(4, "big")
            last = (path << 20 | channel << 4 | 2).to_bytes(4, "big")
            self.assertEqual([bytes(octets[start:start + 4]) for start in (0, 53, 106)], [plain, plain, last])

    def test_0s_between(self):
        octets = helper.asked(OPEN, helper.send_call(1, 40, [255] * 41), [6, 2])[2][1:]
        self.assertEqual(octets[5:53] + octets[58:102], [255] * 41 + [0] * 7 + [0] * 40 + [0, 0] + [0, 41])

    def test_length_in_two_bytes(self):
        octets = helper.asked(OPEN, helper.send_call(1, 40, [9] * 0x1234), [6, 98])[2]
        self.assertEqual(octets[0], 98)
        self.assertEqual(octets[-6:-4], [0x12, 0x34])

    def test_messages_wait_one_behind_another(self):
        calls = OPEN, [1, 2, 50, 0, 0], helper.send_call(2, 50, [7] * 60), helper.send_call(1, 40, [8]), [6, 3]
        self.assertEqual(
            helper.asked(*calls)[2:],
            [[2], [1], [3] + helper.message(2, 50, [7] * 60) + helper.message(1, 40, [8])],
        )

    def test_the_message_is_left_as_it_was(self):
        stream = open_stream()
        data = [1, 2, 3]
        stream.send_message(1, 40, data)
        self.assertEqual(data, [1, 2, 3])
        data[0] = 9
        self.assertEqual(stream.put_out_cells(1)[1:], helper.message(1, 40, [1, 2, 3]))


class Apart(unittest.TestCase):
    def test_closing_leaves_the_cells_that_wait(self):
        calls = OPEN, helper.send_call(1, 40, [1]), [2, 1, 40], [6, 1]
        self.assertEqual(helper.asked(*calls)[3], [1] + helper.message(1, 40, [1]))

    def test_begin_leaves_none(self):
        calls = OPEN, helper.send_call(1, 40, [1]), [0], [6, 1]
        self.assertEqual(helper.asked(*calls)[3], [0] + helper.idle_cell())

    def test_pace_and_slack_are_of_what_comes(self):
        calls = [1, 1, 40, 4294967295, 0], helper.send_call(1, 40, [1] * 60), helper.send_call(1, 40, [2]), [6, 3]
        self.assertEqual(helper.asked(*calls)[3][0], 3)

    def test_what_comes_is_left_alone(self):
        cells = helper.message(1, 40, helper.some_bytes(60))
        calls = [1, 1, 40, 10, 0], helper.bytes_call(helper.idle_cells(7) + cells[:53], 5)
        calls += helper.send_call(1, 40, [1] * 60), [6, 1], helper.bytes_call(cells[53:], 15), [4, 60], [7]
        expected = [[60, 1, 40] + helper.some_bytes(60), [0, 2, 2, 0, 0, 0, 0, 1, 0, 0]]
        self.assertEqual(helper.asked(*calls)[5:], expected)

    def test_messages_that_wait_to_be_taken_take_no_room(self):
        stream = helper.sure_stream((1, 40))
        helper.feed(stream, helper.message(1, 40, [1]) * 64)
        for _ in range(4096):
            self.assertEqual(stream.send_message(1, 40, [1]), 1)
        self.assertEqual(stream.send_message(1, 40, [1]), -4)
