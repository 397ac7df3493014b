"""An open way: its due, and the message that is put together on it."""

from cellstream.messages import MOST_CELLS, message_in


class Way:
    """An open way: nothing put together and no due at first."""

    def __init__(self, pace, slack):
        self.pace = pace
        self.slack = slack
        self.due = None
        self.begin_message()

    def begin_message(self):
        self.cell_count = 0
        self.octets = []

    def is_early(self, now):
        return self.due is not None and now + self.slack < self.due

    def move_due(self, now):
        start = now if self.due is None else max(self.due, now)
        self.due = start + self.pace

    def put(self, body):
        # Cells past the most are still counted: that is what makes the message wrong.
        self.cell_count += 1
        if self.cell_count <= MOST_CELLS:
            self.octets.extend(body)

    def end_message(self):
        """The bytes of the message that ends here, or None if it's wrong; the next is begun."""
        message = message_in(self.octets, self.cell_count)
        self.begin_message()
        return message
