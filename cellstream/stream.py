"""The object that the calls are made on: its ways, its finder, what waits, what is counted."""

from cellstream.finder import Finder, LOST, MENDED
from cellstream.maker import cells_of_message, idle_cell
from cellstream.messages import cells_for
from cellstream.ways import Way

DONE = 0
NO_MESSAGE = 0
TOO_LONG = -1
OUT_OF_RANGE = -2
WRONG_WAY = -3
NO_ROOM = -4

HIGHEST_PATH = 255
LOWEST_CHANNEL = 32
HIGHEST_CHANNEL = 65535
MOST_WAYS = 64
MOST_BYTES = 65536
NOW_BOUND = 0x8000000000000000
FIRST_USER_LEFT_OUT = 4
MOST_WAITING = 64
WAITING_BYTES_BOUND = 1048576
MOST_MESSAGE_BYTES = 65535
MOST_CELLS_TO_SEND = 4096
MOST_CELLS_PUT_OUT = 256
COUNT_BOUND = 0x100000000


def may_be_way(path, channel):
    return 0 <= path <= HIGHEST_PATH and LOWEST_CHANNEL <= channel <= HIGHEST_CHANNEL


class Stream:
    """One stream of cells; a call is refused by a number below 0 and changes nothing then."""

    def __init__(self):
        self.begin()

    def begin(self):
        self.finder = Finder()
        self.ways = {}
        self.waiting = []
        self.waiting_bytes = 0
        self.to_send = []
        self.used = 0
        self.mended = 0
        self.lost = 0
        self.astray = 0
        self.early = 0
        self.right = 0
        self.wrong = 0
        self.dropped = 0
        return DONE

    def open_way(self, path, channel, pace, slack):
        if not may_be_way(path, channel):
            return OUT_OF_RANGE
        if (path, channel) in self.ways:
            return WRONG_WAY
        if len(self.ways) >= MOST_WAYS:
            return NO_ROOM
        self.ways[(path, channel)] = Way(pace, slack)
        return DONE

    def close_way(self, path, channel):
        if not may_be_way(path, channel):
            return OUT_OF_RANGE
        if (path, channel) not in self.ways:
            return WRONG_WAY
        self.ways.pop((path, channel))
        return DONE

    def take_bytes(self, now, octets):
        if len(octets) > MOST_BYTES or now >= NOW_BOUND:
            return OUT_OF_RANGE
        for octet in octets:
            cell = self.finder.take_byte(octet)
            if cell is not None:
                self.take_cell(cell, now)
        return DONE

    def take_cell(self, cell, now):
        if cell.fate == LOST:
            self.lost += 1
            return
        self.used += 1
        if cell.fate == MENDED:
            self.mended += 1
        if not cell.idle and cell.user < FIRST_USER_LEFT_OUT:
            self.bring_to_way(cell, now)

    def bring_to_way(self, cell, now):
        way = self.ways.get((cell.path, cell.channel))
        if way is None:
            self.astray += 1
            return
        if way.is_early(now):
            self.early += 1
            return
        way.move_due(now)
        way.put(cell.body)
        if cell.user % 2 == 1:
            self.keep_message(cell.path, cell.channel, way.end_message())

    def keep_message(self, path, channel, message):
        """Count a message that has ended, None if it's wrong, and keep it if there's room."""
        if message is None:
            self.wrong += 1
            return
        self.right += 1
        size = self.waiting_bytes + len(message)
        if len(self.waiting) < MOST_WAITING and size < WAITING_BYTES_BOUND:
            self.waiting.append((path, channel, message))
            self.waiting_bytes = size
        else:
            self.dropped += 1

    def take_message(self, most):
        if most < 0:
            return [OUT_OF_RANGE]
        if len(self.waiting) == 0:
            return [NO_MESSAGE]
        first = self.waiting[0]
        message = first[2]
        if len(message) > most:
            return [TOO_LONG]
        self.waiting.pop(0)
        self.waiting_bytes -= len(message)
        return [len(message), first[0], first[1]] + message

    def send_message(self, path, channel, message):
        if not may_be_way(path, channel) or not 1 <= len(message) <= MOST_MESSAGE_BYTES:
            return OUT_OF_RANGE
        if (path, channel) not in self.ways:
            return WRONG_WAY
        cell_count = cells_for(len(message))
        if len(self.to_send) + cell_count > MOST_CELLS_TO_SEND:
            return NO_ROOM
        self.to_send.extend(cells_of_message(path, channel, message))
        return cell_count

    def put_out_cells(self, cell_count):
        """How many of the cells aren't idle, then the bytes of them all."""
        if not 0 <= cell_count <= MOST_CELLS_PUT_OUT:
            return [OUT_OF_RANGE]
        sent = self.to_send[:cell_count]
        self.to_send = self.to_send[cell_count:]
        answer = [len(sent)]
        for cell in sent:
            answer.extend(cell)
        return answer + idle_cell() * (cell_count - len(sent))

    def tell(self):
        """Where the finder stands, then all that is counted."""
        cells = [self.used, self.mended, self.lost, self.astray, self.early]
        messages = [self.right, self.wrong, self.dropped]
        counted = [number % COUNT_BOUND for number in cells + messages]
        return [DONE, self.finder.state] + counted
