import unittest

from cellstream.stream import Stream
from tests import helper

OPEN = [1, 1, 40, 0, 0]
IDLE = helper.idle_cell()
DATA = helper.some_bytes(100)
CELLS = helper.message(1, 40, DATA)
SENT = helper.send_call(1, 40, DATA)


class Refused(unittest.TestCase):
    def test_bounds(self):
        for cells in (-1, -2147483648, 257, 2147483647):
            self.assertEqual(helper.asked([6, cells]), [[-2]])
        self.assertEqual(helper.asked([6, 0]), [[0]])
        self.assertEqual(helper.asked([6, 256]), [[0] + IDLE * 256])

    def test_nothing_is_changed(self):
        calls = OPEN, SENT, [6, -1], [6, 257], [7], [6, 3]
        self.assertEqual(helper.asked(*calls)[2:], [[-2], [-2], [0] * 10, [3] + CELLS])


class Idle(unittest.TestCase):
    def test_byte_by_byte(self):
        self.assertEqual(helper.asked([6, 1]), [[0, 0, 0, 0, 1, 0x52] + [0x6A] * 48])

    def test_none_waits(self):
        for cells in (1, 2, 7, 255):
            self.assertEqual(helper.asked([6, cells]), [[0] + IDLE * cells])

    def test_behind_those_that_wait(self):
        self.assertEqual(helper.asked(OPEN, SENT, [6, 4], [6, 1])[2:], [[3] + CELLS + IDLE, [0] + IDLE])
        self.assertEqual(helper.asked(OPEN, SENT, [6, 256])[2], [3] + CELLS + IDLE * 253)

    def test_one_cell_changed_leaves_the_others(self):
        stream = Stream()
        answer = stream.put_out_cells(2)
        answer[10] = 9
        self.assertEqual(answer[54:], IDLE)
        self.assertEqual(stream.put_out_cells(1), [0] + IDLE)


class Waiting(unittest.TestCase):
    def test_no_cells(self):
        self.assertEqual(helper.asked(OPEN, SENT, [6, 0], [6, 3])[2:], [[0], [3] + CELLS])

    def test_fewer_than_wait(self):
        calls = OPEN, SENT, [6, 1], [6, 1], [6, 1], [6, 1]
        expected = [[1] + CELLS[:53], [1] + CELLS[53:106], [1] + CELLS[106:], [0] + IDLE]
        self.assertEqual(helper.asked(*calls)[2:], expected)
        self.assertEqual(helper.asked(OPEN, SENT, [6, 2], [6, 2])[2:], [[2] + CELLS[:106], [1] + CELLS[106:] + IDLE])

    def test_just_as_many_as_wait(self):
        self.assertEqual(helper.asked(OPEN, SENT, [6, 3], [6, 0])[2:], [[3] + CELLS, [0]])

    def test_first_come_first(self):
        more = helper.message(1, 40, [5])
        calls = OPEN, SENT, [6, 2], helper.send_call(1, 40, [5]), [6, 3]
        self.assertEqual(helper.asked(*calls)[4], [2] + CELLS[106:] + more + IDLE)

    def test_all_256_wait(self):
        data = helper.some_bytes(260 * 48 - 8)
        cells = helper.message(1, 40, data)
        given = helper.asked(OPEN, helper.send_call(1, 40, data), [6, 256], [6, 256])
        self.assertEqual(given[1:3], [[260], [256] + cells[:256 * 53]])
        self.assertEqual(given[3], [4] + cells[256 * 53:] + IDLE * 252)

    def test_a_body_like_an_idle_one_is_not_idle(self):
        calls = OPEN, helper.send_call(1, 40, [0x6A] * 88), [6, 3]
        given = helper.asked(*calls)[2]
        self.assertEqual(given[0], 2)
        self.assertEqual(given[6:54], [0x6A] * 48)

    def test_what_was_put_out_makes_room(self):
        stream = Stream()
        stream.open_way(1, 40, 0, 0)
        for _ in range(4096):
            self.assertEqual(stream.send_message(1, 40, [1]), 1)
        self.assertEqual(stream.put_out_cells(100)[0], 100)
        for _ in range(100):
            self.assertEqual(stream.send_message(1, 40, [2]), 1)
        self.assertEqual(stream.send_message(1, 40, [2]), -4)

    def test_how_many_numbers(self):
        for cells in (0, 1, 2, 3, 4, 256):
            self.assertEqual(len(helper.asked(OPEN, SENT, [6, cells])[2]), 1 + 53 * cells)

    def test_nothing_is_counted(self):
        self.assertEqual(helper.asked(OPEN, SENT, [6, 5], [7])[3], [0] * 10)
