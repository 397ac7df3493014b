"""Finding cells in bytes that come one by one, and mending their heads."""

from cellstream.sums import head_sum

HUNTING = 0
DOUBTFUL = 1
SURE = 2

USED = 1
MENDED = 2
LOST = 3

HEAD_SIZE = 5
HEAD_BITS = 40
HEAD_MASK = 0xFFFFFFFFFF
BODY_SIZE = 48
RIGHT_HEADS_TO_BE_SURE = 6
WRONG_HEADS_TO_HUNT = 7
IDLE_HEAD = 1


def is_right(head):
    """Whether the last of a head's 40 bits are the sum of the first 32."""
    return head_sum(head >> 8) == head & 0xFF


class Cell:
    """A cell that came while sure: its fate, what its head says, and its 48 bytes."""

    def __init__(self, fate, head, body):
        self.fate = fate
        self.idle = head >> 8 == IDLE_HEAD
        self.path = head >> 28 & 0xFF
        self.channel = head >> 12 & 0xFFFF
        self.user = head >> 9 & 7
        self.body = body


class Finder:
    """Where in its cell the stream stands, and how far its heads are trusted."""

    def __init__(self):
        self.mending = False
        self.hunt()

    def hunt(self):
        self.state = HUNTING
        self.right_heads = 0
        self.wrong_heads = 0
        self.begin_cell()

    def begin_cell(self):
        self.head = 0
        self.head_size = 0
        self.body = []
        self.fate = None

    def take_byte(self, octet):
        """The cell that ends with this byte, if it came while sure; else None."""
        if self.state == HUNTING or self.head_size < HEAD_SIZE:
            self.put_to_head(octet)
            return None
        self.body.append(octet)
        if len(self.body) < BODY_SIZE:
            return None
        return self.end_cell()

    def put_to_head(self, octet):
        # While hunting the head slides on: of more than five bytes the oldest falls out.
        self.head = (self.head << 8 | octet) & HEAD_MASK
        self.head_size = min(self.head_size + 1, HEAD_SIZE)
        if self.head_size == HEAD_SIZE:
            self.look_at_head()

    def look_at_head(self):
        right = is_right(self.head)
        if self.state == SURE:
            self.look_while_sure(right)
        elif self.state == DOUBTFUL:
            self.look_while_doubtful(right)
        elif right:
            self.state = DOUBTFUL

    def look_while_doubtful(self, right):
        if right:
            self.right_heads += 1
        else:
            self.hunt()

    def look_while_sure(self, right):
        if right:
            self.wrong_heads = 0
            self.mending = True
            self.fate = USED
            return
        self.wrong_heads += 1
        if self.wrong_heads == WRONG_HEADS_TO_HUNT:
            self.hunt()
            return
        self.fate = self.mend_head() if self.mending else LOST
        self.mending = False

    def mend_head(self):
        """Turn the one wrong bit, if there's just one; the fate that the cell has by it."""
        for place in range(HEAD_BITS):
            turned = self.head ^ (1 << place)
            if is_right(turned):
                self.head = turned
                return MENDED
        return LOST

    def end_cell(self):
        cell = None
        if self.state == SURE:
            cell = Cell(self.fate, self.head, self.body)
        elif self.right_heads == RIGHT_HEADS_TO_BE_SURE:
            self.state = SURE
            self.mending = True
        self.begin_cell()
        return cell
