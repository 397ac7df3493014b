"""The calls, written one behind another in one list of whole numbers, and their answers."""

from cellstream.stream import Stream

BEGIN = 0
OPEN_WAY = 1
CLOSE_WAY = 2
BYTES_COME = 3
TAKE = 4
SEND = 5
OUTPUT = 6
TOLD = 7


class UnknownCall(ValueError):
    """A number that is no call's stands where a call should."""


class Reader:
    """Goes through the list of calls number by number, and leaves it as it is."""

    def __init__(self, numbers):
        self.numbers = numbers
        self.place = 0

    def has_more(self):
        return self.place < len(self.numbers)

    def read_number(self):
        number = self.numbers[self.place]
        self.place += 1
        return number

    def read_row(self):
        size = self.read_number()
        row = self.numbers[self.place:self.place + size]
        self.place += size
        return row


def answer_open(stream, reader):
    path = reader.read_number()
    channel = reader.read_number()
    pace = reader.read_number()
    slack = reader.read_number()
    return [stream.open_way(path, channel, pace, slack)]


def answer_close(stream, reader):
    path = reader.read_number()
    channel = reader.read_number()
    return [stream.close_way(path, channel)]


def answer_bytes(stream, reader):
    now = reader.read_number()
    octets = reader.read_row()
    return [stream.take_bytes(now, octets)]


def answer_send(stream, reader):
    path = reader.read_number()
    channel = reader.read_number()
    message = reader.read_row()
    return [stream.send_message(path, channel, message)]


def answer_call(stream, reader):
    """The numbers that the next call answers."""
    call = reader.read_number()
    if call == BEGIN:
        return [stream.begin()]
    if call == OPEN_WAY:
        return answer_open(stream, reader)
    if call == CLOSE_WAY:
        return answer_close(stream, reader)
    if call == BYTES_COME:
        return answer_bytes(stream, reader)
    if call == TAKE:
        return stream.take_message(reader.read_number())
    if call == SEND:
        return answer_send(stream, reader)
    if call == OUTPUT:
        return stream.put_out_cells(reader.read_number())
    if call == TOLD:
        return stream.tell()
    raise UnknownCall(f"no such call: {call}")


def answers(calls):
    """For each call, in order: how many numbers it answers, and these."""
    stream = Stream()
    reader = Reader(calls)
    given = []
    while reader.has_more():
        answer = answer_call(stream, reader)
        given.append(len(answer))
        given.extend(answer)
    return given
