"""An open way: its due, and the message that is put together on it."""

from cellstream.finder import BODY_SIZE
from cellstream.sums import message_sum

TRAILER_SIZE = 8
MOST_CELLS = 1366


def cells_for(length):
    """How many cells a message of so many bytes takes."""
    return (length + TRAILER_SIZE + BODY_SIZE - 1) // BODY_SIZE


def number_of(octets):
    """The whole number that these bytes are, the highest first."""
    number = 0
    for octet in octets:
        number = number << 8 | octet
    return number


def message_in(octets, cell_count):
    """The bytes of the message that so many cells hold, or None if it's wrong."""
    if cell_count > MOST_CELLS:
        return None
    length = number_of(octets[-6:-4])
    if length == 0 or cell_count != cells_for(length):
        return None
    if number_of(octets[-4:]) != message_sum(octets[:-4]):
        return None
    return octets[:length]


class Way:
    """An open way: nothing put together and no due at first."""

    def __init__(self, pace, slack):
        self.pace = pace
        self.slack = slack
        self.due = None
        self.begin_message()

    def begin_message(self):
        self.cell_count = 0
        self.octets = []

    def is_early(self, now):
        return self.due is not None and now + self.slack < self.due

    def move_due(self, now):
        start = now if self.due is None else max(self.due, now)
        self.due = start + self.pace

    def put(self, body):
        # Cells past the most are still counted: that is what makes the message wrong.
        self.cell_count += 1
        if self.cell_count <= MOST_CELLS:
            self.octets.extend(body)

    def end_message(self):
        """The bytes of the message that ends here, or None if it's wrong; the next is begun."""
        message = message_in(self.octets, self.cell_count)
        self.begin_message()
        return message
