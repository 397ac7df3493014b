"""Making cells: those of a message that is sent, and idle ones."""

from cellstream.finder import BODY_SIZE, IDLE_HEAD
from cellstream.messages import filled_out, octets_of
from cellstream.sums import head_sum

FIELDS_SIZE = 4
IDLE_BYTE = 0x6A
LAST_USER = 1
OTHER_USER = 0


def cell_with(head, body):
    """The 53 bytes of a cell: its head of 32 bits, the head's sum, and the body."""
    return octets_of(head, FIELDS_SIZE) + [head_sum(head)] + body


def idle_cell():
    return cell_with(IDLE_HEAD, [IDLE_BYTE] * BODY_SIZE)


def head_of(path, channel, user):
    return path << 20 | channel << 4 | user << 1


def cells_of_message(path, channel, message):
    """The cells that hold this message, each a list of 53 bytes."""
    octets = filled_out(message)
    cells = []
    for start in range(0, len(octets), BODY_SIZE):
        end = start + BODY_SIZE
        user = LAST_USER if end == len(octets) else OTHER_USER
        cells.append(cell_with(head_of(path, channel, user), octets[start:end]))
    return cells
