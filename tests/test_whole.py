"""All calls together, against a model that is written apart from the program."""

import random
import unittest

from cellstream.cells import answers
from tests import helper

IDLE = helper.idle_cell()
WAYS = ((1, 40), (1, 41), (0, 32), (255, 65535))
WRONG_WAYS = ((-1, 40), (256, 40), (1, 31), (1, 65536))


def is_right(head):
    return helper.head_sum(int.from_bytes(bytes(head[:4]), "big")) == head[4]


class Model:
    """The document's words, with each cell looked at as a whole when its last byte is there."""

    def __init__(self):
        self.begin()

    def begin(self):
        self.state = self.right_heads = self.wrong_heads = 0
        self.mending = False
        self.buffer, self.ways, self.messages, self.cells = [], {}, [], []
        self.counted = dict.fromkeys(("used", "mended", "lost", "astray", "early", "right", "wrong", "dropped"), 0)
        return [0]

    def open(self, path, channel, pace, slack):
        if not (path in range(256) and channel in range(32, 65536)):
            return [-2]
        if (path, channel) in self.ways:
            return [-3]
        if len(self.ways) == 64:
            return [-4]
        self.ways[path, channel] = {"pace": pace, "slack": slack, "due": None, "bodies": []}
        return [0]

    def close(self, path, channel):
        if not (path in range(256) and channel in range(32, 65536)):
            return [-2]
        return [-3] if self.ways.pop((path, channel), None) is None else [0]

    def bytes(self, now, octets):
        if len(octets) > 65536 or now >= 2 ** 63:
            return [-2]
        for octet in octets:
            self.buffer.append(octet)
            if self.state == 0:
                self.buffer = self.buffer[-5:]
            if len(self.buffer) == 5:
                self.look(is_right(self.buffer))
            if len(self.buffer) == 53:
                self.end_cell(now, self.buffer)
                self.buffer = []
        return [0]

    def look(self, right):
        if self.state == 0:
            self.state, self.right_heads = (1, 0) if right else (0, 0)
        elif self.state == 1 and right:
            self.right_heads += 1
        elif self.state == 1 or not right and self.wrong_heads == 6:
            self.state, self.buffer = 0, []
        else:
            self.wrong_heads = 0 if right else self.wrong_heads + 1

    def end_cell(self, now, octets):
        if self.state == 1:
            if self.right_heads == 6:
                self.state, self.wrong_heads, self.mending = 2, 0, True
            return
        heads = [helper.turn_bits(octets[:5], place) for place in range(40)]
        heads = [head for head in heads if is_right(head)]
        if is_right(octets):
            self.mending = True
            self.use(now, octets[:5], octets[5:])
        elif self.mending and heads:
            self.mending = False
            self.counted["mended"] += 1
            self.use(now, heads[0], octets[5:])
        else:
            self.mending = False
            self.counted["lost"] += 1

    def use(self, now, head, body):
        self.counted["used"] += 1
        bits = "".join(format(octet, "08b") for octet in head[:4])
        path, channel, user = int(bits[4:12], 2), int(bits[12:28], 2), int(bits[28:31], 2)
        if bits == "1".zfill(32) or user >= 4:
            return
        way = self.ways.get((path, channel))
        if way is None:
            self.counted["astray"] += 1
        elif way["due"] is not None and now + way["slack"] < way["due"]:
            self.counted["early"] += 1
        else:
            way["due"] = (now if way["due"] is None else max(now, way["due"])) + way["pace"]
            way["bodies"].append(body)
            if user in (1, 3):
                self.end_message(path, channel, way["bodies"])
                way["bodies"] = []

    def end_message(self, path, channel, bodies):
        octets = sum(bodies, [])
        length = octets[-6] * 256 + octets[-5]
        good = int.from_bytes(bytes(octets[-4:]), "big") == helper.message_sum(octets[:-4])
        if not good or length == 0 or len(bodies) > 1366 or len(bodies) != (length + 55) // 48:
            self.counted["wrong"] += 1
            return
        self.counted["right"] += 1
        if len(self.messages) < 64 and sum(len(kept[2]) for kept in self.messages) + length < 1048576:
            self.messages.append((path, channel, octets[:length]))
        else:
            self.counted["dropped"] += 1

    def take(self, most):
        if most < 0:
            return [-2]
        if not self.messages:
            return [0]
        path, channel, octets = self.messages[0]
        if len(octets) > most:
            return [-1]
        self.messages = self.messages[1:]
        return [len(octets), path, channel, *octets]

    def send(self, path, channel, octets):
        if not (path in range(256) and channel in range(32, 65536) and len(octets) in range(1, 65536)):
            return [-2]
        if (path, channel) not in self.ways:
            return [-3]
        made = helper.message(path, channel, octets)
        made = [made[start:start + 53] for start in range(0, len(made), 53)]
        if len(self.cells + made) > 4096:
            return [-4]
        self.cells += made
        return [len(made)]

    def output(self, cells):
        if cells not in range(257):
            return [-2]
        made = self.cells[:cells]
        self.cells = self.cells[cells:]
        return [len(made)] + sum(made, []) + IDLE * (cells - len(made))

    def told(self):
        return [0, self.state] + [number % 2 ** 32 for number in self.counted.values()]


class Writer:
    """Writes a list of calls by a seed, and what the model answers to each."""

    def __init__(self, seed):
        self.random = random.Random(seed)
        self.model = Model()
        self.calls = []
        self.expected = []
        self.line = IDLE * 8
        self.now = 0

    def call(self, number, numbers, row, answer):
        self.calls += [number, *numbers] + ([] if row is None else [len(row), *row])
        self.expected += [len(answer), *answer]
        return answer

    def some_way(self):
        return self.random.choice(WAYS * 4 + WRONG_WAYS + ((9, 99),))

    def spoil(self, octets):
        """The bytes with a fault now and then: a bit, a whole head, a byte too few, or noise."""
        chance = self.random.random()
        if chance < 0.15:
            return helper.turn_bits(octets, self.random.randrange(40))
        if chance < 0.25:
            return helper.turn_bits(octets, *self.random.sample(range(len(octets) * 8), 3))
        if chance < 0.28:
            return helper.lost_cell() * self.random.randrange(1, 8) + octets
        if chance < 0.30:
            return octets[1:]
        if chance < 0.32:
            return [self.random.randrange(256) for _ in range(20)] + IDLE * 8 + octets
        return octets

    def step(self):
        kinds = ("open",) * 2 + ("close", "bytes", "bytes", "bytes", "bytes", "take", "take", "told", "told")
        kinds += ("send",) * 3 + ("output",) * 3
        getattr(self, "begin" if self.random.random() < 0.002 else self.random.choice(kinds))()

    def begin(self):
        self.call(0, [], None, self.model.begin())
        self.line += IDLE * 8

    def open(self):
        numbers = [*self.some_way(), self.random.choice((0, 0, 1, 5)), self.random.choice((0, 3, 4294967295))]
        self.call(1, numbers, None, self.model.open(*numbers))

    def close(self):
        if self.random.random() < 0.3:
            numbers = self.some_way()
            self.call(2, numbers, None, self.model.close(*numbers))

    def bytes(self):
        self.now += self.random.choice((0, 1, 4, 9))
        now = self.now if self.random.random() < 0.95 else 2 ** 63 + self.now
        size = self.random.choice((0, 1, 53, 200, 1000))
        row = self.line[:size]
        if self.call(3, [now], row, self.model.bytes(now, row)) == [0]:
            self.line = self.line[size:]

    def take(self):
        numbers = [self.random.choice((-1, 0, 30, 100, 2147483647))]
        self.call(4, numbers, None, self.model.take(*numbers))

    def send(self):
        size = self.random.choice((0, 1, 39, 40, 41, 87, 88, 89, 150))
        row = [self.random.randrange(256) for _ in range(size)]
        numbers = self.some_way()
        self.call(5, numbers, row, self.model.send(*numbers, row))

    def output(self):
        numbers = [self.random.choice((-1, 0, 1, 2, 3, 5, 257))]
        answer = self.call(6, numbers, None, self.model.output(*numbers))
        if len(answer) > 1:
            self.line += self.spoil(answer[1:])

    def told(self):
        self.call(7, [], None, self.model.told())


def written(seed, many=400):
    """A list of up to so many calls, and its answers by the model."""
    writer = Writer(seed)
    for _ in range(many - 1):
        # No step writes more than 1003 numbers, so the list stays within its 16000.
        if len(writer.calls) < 14900:
            writer.step()
    writer.told()
    return writer


class BackAgain(unittest.TestCase):
    def test_what_is_sent_comes_back(self):
        for length in (1, 39, 40, 41, 87, 88, 89, 136, 137, 1000, 10000):
            data = helper.some_bytes(length)
            count = (length + 55) // 48
            sent = helper.asked([1, 7, 70, 0, 0], helper.send_call(7, 70, data), [6, count])[2]
            self.assertEqual(sent[0], count)
            calls = [1, 7, 70, 0, 0], helper.bytes_call(IDLE * 7 + sent[1:]), [4, length], [7]
            given = helper.asked(*calls)
            self.assertEqual(given[2:], [[length, 7, 70] + data, [0, 2, count, 0, 0, 0, 0, 1, 0, 0]])

    def test_idle_cells_make_it_sure(self):
        put_out = helper.asked([6, 9])[0]
        self.assertEqual(helper.asked(helper.bytes_call(put_out[1:]), [7])[1], [0, 2, 2] + [0] * 7)

    def test_several_ways_in_one_list(self):
        calls = [[1, path, channel, 0, 0] for path, channel in WAYS] + [[6, 7]]
        calls += [helper.send_call(path, channel, helper.some_bytes(60, path)) for path, channel in WAYS]
        sent = helper.asked(*calls, [6, 10])
        octets = sent[4][1:] + sent[9][1:]
        given = helper.asked(*calls[:4], helper.bytes_call(octets), *[[4, 60]] * 5, [7])
        expected = [[60, path, channel] + helper.some_bytes(60, path) for path, channel in WAYS] + [[0]]
        self.assertEqual(given[5:], expected + [[0, 2, 10, 0, 0, 0, 0, 4, 0, 0]])

    def test_longest(self):
        stream = helper.sure_stream((1, 40))
        data = helper.some_bytes(65535)
        left = stream.send_message(1, 40, data)
        self.assertEqual(left, 1366)
        while left > 0:
            answer = stream.put_out_cells(256)
            left -= answer[0]
            helper.feed(stream, answer[1:])
        self.assertEqual(stream.take_message(65535), [65535, 1, 40] + data)


class AllKinds(unittest.TestCase):
    def test_as_the_model_answers(self):
        seen = [0] * 8
        for seed in range(40):
            writer = written(seed)
            self.assertLessEqual(len(writer.calls), 16000)
            self.assertEqual(answers(writer.calls), writer.expected, seed)
            seen = [old + new for old, new in zip(seen, writer.model.counted.values())]
        # All that is counted has come about but dropped, which needs 64 that wait.
        self.assertGreater(min(seen[:7]), 0)

    def test_short_lists(self):
        for seed in range(40):
            writer = written(seed, seed + 1)
            self.assertEqual(answers(writer.calls), writer.expected, seed)

    def test_four_hundred_calls(self):
        calls = [1, 1, 40, 0, 0, 5, 1, 40, 1, 9, 4, 0, 3, 0, 1, 7, 6, 1, 7, 2, 1, 40, 0] * 50
        expected = [1, 0, 1, 1, 1, 0, 1, 0, 54, 1] + helper.message(1, 40, [9]) + [10] + [0] * 10 + [1, 0, 1, 0]
        self.assertEqual(answers(calls), expected * 50)

    def test_nearly_a_million_numbers(self):
        given = answers([6, 256] * 73)
        self.assertEqual(given, ([13569, 0] + IDLE * 256) * 73)

    def test_list_is_left_as_it_was(self):
        for seed in range(5):
            calls = written(seed).calls
            before = list(calls)
            answers(calls)
            self.assertEqual(calls, before)

    def test_same_list_twice(self):
        for seed in range(5):
            calls = written(seed).calls
            first = answers(calls)
            answers(written(seed + 1).calls)
            self.assertEqual(answers(calls), first)

    def test_whole_numbers_alone(self):
        given = answers(written(3).calls)
        self.assertIs(type(given), list)
        self.assertEqual({type(number) for number in given}, {int})
