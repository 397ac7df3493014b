import unittest

from tests import helper

OPEN = [1, 1, 40, 0, 0]
IDLE = helper.idle_cell()
MENDED = helper.turn_bits(IDLE, 5)
LOST = helper.lost_cell()
ASTRAY = helper.cell(9, 99)
RIGHT = helper.message(1, 40, [7])
WRONG = helper.cells_of(1, 40, helper.filled([7], wrong=1))
NAMES = ("used", "mended", "lost", "astray", "early", "right", "wrong", "dropped")


def told(state, **counted):
    """The answer with this state and these counts, all others 0."""
    return [0, state] + [counted.get(name, 0) for name in NAMES]


def told_after(*octets):
    """What's told behind each of these rows of bytes, with the way 1, 40 open."""
    calls = [OPEN]
    for row in octets:
        calls += [helper.bytes_call(row), [7]]
    return helper.asked(*calls)[2::2]


def told_when_sure(octets):
    return told_after(IDLE * 7, octets)[1]


class State(unittest.TestCase):
    def test_hunting_at_first(self):
        self.assertEqual(helper.asked([7], [0], [7]), [told(0), [0], told(0)])

    def test_hunting_doubtful_sure(self):
        given = told_after(IDLE[:4], IDLE[4:5], IDLE[5:] + IDLE * 5, IDLE[:52], IDLE[52:])
        self.assertEqual(given, [told(0), told(1), told(1), told(1), told(2)])

    def test_doubtful_to_hunting(self):
        self.assertEqual(told_after(IDLE * 6, LOST[:4], LOST[4:5]), [told(1), told(1), told(0)])

    def test_sure_to_hunting(self):
        given = told_after(IDLE * 7, LOST * 6, LOST[:4], LOST[4:5], LOST[5:] + [0] * 60)
        self.assertEqual(given, [told(2), told(2, lost=6), told(2, lost=6), told(0, lost=6), told(0, lost=6)])

    def test_counts_stay_through_hunting_and_doubtful(self):
        given = told_after(IDLE * 8 + ASTRAY + RIGHT + WRONG, LOST * 6 + [9] * 5, IDLE, IDLE * 6, IDLE)
        counted = {"used": 4, "lost": 6, "astray": 1, "right": 1, "wrong": 1}
        self.assertEqual(given[1:4], [told(state, **counted) for state in (0, 1, 2)])
        self.assertEqual(given[4], told(2, **dict(counted, used=5)))


class Counts(unittest.TestCase):
    def test_used(self):
        self.assertEqual(told_when_sure(helper.cell(1, 40) * 3), told(2, used=3))

    def test_used_counts_idle_ones(self):
        self.assertEqual(told_when_sure(IDLE * 3), told(2, used=3))

    def test_used_counts_those_that_nothing_is_done_with(self):
        self.assertEqual(told_when_sure(helper.cell(1, 40, 4) + helper.cell(9, 99, 7)), told(2, used=2))

    def test_mended_are_used_too(self):
        self.assertEqual(told_when_sure(MENDED + IDLE + MENDED), told(2, used=3, mended=2))

    def test_lost_are_not_used(self):
        self.assertEqual(told_when_sure(LOST * 2 + IDLE), told(2, used=1, lost=2))

    def test_astray_are_used_too(self):
        self.assertEqual(told_when_sure(ASTRAY * 2), told(2, used=2, astray=2))

    def test_mended_and_astray(self):
        self.assertEqual(told_when_sure(helper.turn_bits(ASTRAY, 1)), told(2, used=1, mended=1, astray=1))

    def test_early_are_used_too(self):
        calls = [1, 1, 40, 10, 0], helper.bytes_call(IDLE * 7 + RIGHT * 3, 0), [7], helper.bytes_call(RIGHT, 10), [7]
        given = helper.asked(*calls)
        self.assertEqual(given[2], told(2, used=3, early=2, right=1))
        self.assertEqual(given[4], told(2, used=4, early=2, right=2))

    def test_right_and_wrong(self):
        self.assertEqual(told_when_sure(RIGHT * 2 + WRONG * 3), told(2, used=5, right=2, wrong=3))

    def test_dropped_are_right_too(self):
        self.assertEqual(told_when_sure(RIGHT * 66), told(2, used=66, right=66, dropped=2))

    def test_taken_ones_stay_right(self):
        calls = OPEN, helper.bytes_call(IDLE * 7 + RIGHT * 2), [4, 1], [7]
        self.assertEqual(helper.asked(*calls)[3], told(2, used=2, right=2))

    def test_closing_leaves_them(self):
        calls = OPEN, helper.bytes_call(IDLE * 7 + RIGHT + WRONG), [2, 1, 40], [7]
        self.assertEqual(helper.asked(*calls)[3], told(2, used=2, right=1, wrong=1))

    def test_telling_changes_nothing(self):
        calls = OPEN, helper.bytes_call(IDLE * 7 + RIGHT + LOST), [7], [7], [4, 1], [7]
        once = told(2, used=1, lost=1, right=1)
        self.assertEqual(helper.asked(*calls)[2:], [once, once, [1, 1, 40, 7], once])

    def test_begin_puts_all_to_0(self):
        octets = IDLE * 7 + MENDED + LOST + ASTRAY + RIGHT * 65 + WRONG + helper.cell(2, 50) * 2
        calls = OPEN, [1, 2, 50, 1, 0], helper.bytes_call(octets), [7], [0], [7], [4, 1], [6, 1], [2, 1, 40]
        given = helper.asked(*calls)
        self.assertEqual(given[3], [0, 2, 70, 1, 1, 1, 1, 65, 1, 1])
        self.assertEqual(given[4:], [[0], told(0), [0], [0] + IDLE, [-3]])


class Modulo(unittest.TestCase):
    def test_each_count(self):
        for place, name in enumerate(NAMES):
            for number, shown in ((2 ** 32 - 1, 2 ** 32 - 1), (2 ** 32, 0), (2 ** 32 + 5, 5), (2 ** 40 + 1, 1)):
                stream = helper.sure_stream()
                setattr(stream, name, number)
                expected = told(2)
                expected[2 + place] = shown
                self.assertEqual(stream.tell(), expected)
