"""How a message lies in its cells: its bytes, 0s, and the 8 bytes at its end."""

from cellstream.finder import BODY_SIZE
from cellstream.sums import message_sum

TRAILER_SIZE = 8
LENGTH_SIZE = 2
SUM_SIZE = 4
MOST_CELLS = 1366


def cells_for(length):
    """How many cells a message of so many bytes takes."""
    return (length + TRAILER_SIZE + BODY_SIZE - 1) // BODY_SIZE


def number_of(octets):
    """The whole number that these bytes are, the highest first."""
    number = 0
    for octet in octets:
        number = number << 8 | octet
    return number


def octets_of(number, size):
    """The whole number as so many bytes, the highest first."""
    return [(number >> (8 * place)) & 0xFF for place in range(size - 1, -1, -1)]


def message_in(octets, cell_count):
    """The bytes of the message that so many cells hold, or None if it's wrong."""
    if cell_count > MOST_CELLS:
        return None
    length = number_of(octets[-6:-4])
    if length == 0 or cell_count != cells_for(length):
        return None
    if number_of(octets[-4:]) != message_sum(octets[:-4]):
        return None
    return octets[:length]


def filled_out(message):
    """All bytes of the cells that hold this message."""
    length = len(message)
    # The two bytes ahead of the length are sent as 0s, so they are filled like those before them.
    room = BODY_SIZE * cells_for(length) - LENGTH_SIZE - SUM_SIZE
    summed = message + [0] * (room - length) + octets_of(length, LENGTH_SIZE)
    return summed + octets_of(message_sum(summed), SUM_SIZE)
