"""Cells and messages for the tests, made apart from the program's own sums."""

import zlib

from cellstream.cells import answers
from cellstream.stream import Stream

IDLE_BODY = [0x6A] * 48


def head_sum(head):
    rest = 0
    for octet in head.to_bytes(4, "big"):
        rest ^= octet
        for _ in range(8):
            rest = ((rest << 1) ^ 0x07) & 0xFF if rest & 0x80 else rest << 1
    return rest ^ 0x55


def turned_round(number, width):
    return int(format(number, "b").zfill(width)[::-1], 2)


ROUND = bytes(turned_round(octet, 8) for octet in range(256))


def message_sum(octets):
    """The same sum as zlib's but for the order of the bits, in the bytes and in the sum."""
    return turned_round(zlib.crc32(bytes(octets).translate(ROUND)), 32)


def head_number(path, channel, user=0, rank=0, first=0):
    return first << 28 | path << 20 | channel << 4 | user << 1 | rank


def cell_with_head(head, body=None):
    return list(head.to_bytes(4, "big")) + [head_sum(head)] + list(IDLE_BODY if body is None else body)


def cell(path, channel, user=0, body=None, rank=0, first=0):
    return cell_with_head(head_number(path, channel, user, rank, first), body)


def idle_cell():
    return cell_with_head(1)


def idle_cells(many):
    return idle_cell() * many


def turn_bits(octets, *places):
    """The cell with some of its head's 40 bits turned; place 0 is the highest bit."""
    turned = list(octets)
    for place in places:
        turned[place // 8] ^= 0x80 >> (place % 8)
    return turned


def lost_cell():
    """A cell whose head no one bit mends."""
    return turn_bits(idle_cell(), 3, 4)


def filled(data, cell_count=None, length=None, wrong=0):
    """All the bytes of a message's cells; the sum is right but for what wrong turns."""
    count = (len(data) + 55) // 48 if cell_count is None else cell_count
    size = len(data) if length is None else length
    octets = list(data) + [0] * (48 * count - 8 - len(data)) + [0, 0, size >> 8, size & 255]
    return octets + list((message_sum(octets) ^ wrong).to_bytes(4, "big"))


def cells_of(path, channel, octets, last_user=1, other_user=0):
    """One list of bytes: the cells that hold these bytes, the end told in the last."""
    cells = []
    for start in range(0, len(octets), 48):
        last = start + 48 >= len(octets)
        cells += cell(path, channel, last_user if last else other_user, octets[start:start + 48])
    return cells


def message(path, channel, data):
    return cells_of(path, channel, filled(data))


def some_bytes(many, seed=1):
    return [(place * 37 + seed * 101 + (place >> 8)) % 256 for place in range(many)]


def sure_stream(*ways):
    """A stream that has just become sure, with these ways open at any pace."""
    stream = Stream()
    for path, channel in ways:
        assert stream.open_way(path, channel, 0, 0) == 0
    assert stream.take_bytes(0, idle_cells(7)) == 0
    return stream


def feed(stream, octets, now=0):
    """Bytes in as many calls as they need."""
    for start in range(0, len(octets), 65536):
        assert stream.take_bytes(now, octets[start:start + 65536]) == 0


def counts(stream):
    """All that is counted and isn't 0."""
    names = ("used", "mended", "lost", "astray", "early", "right", "wrong", "dropped")
    return {name: getattr(stream, name) for name in names if getattr(stream, name)}


def bytes_call(octets, now=0):
    return [3, now, len(octets)] + octets


def send_call(path, channel, octets):
    return [5, path, channel, len(octets)] + octets


def asked(*calls):
    """The answer of each of these calls, all of them in one list."""
    given = answers([number for call in calls for number in call])
    split = []
    while given:
        split.append(given[1:1 + given[0]])
        given = given[1 + given[0]:]
    return split
