"""The two sums: the one behind a cell's head and the one at a message's end."""

HEAD_DIVISOR = 0x107
HEAD_TURN = 0x55
MESSAGE_DIVISOR = 0x104C11DB7
MESSAGE_START = 0xFFFFFFFF


def head_sum(head):
    """The sum that belongs behind a head of 32 bits."""
    rest = head << 8
    for place in range(31, -1, -1):
        if rest >> (place + 8) & 1 == 1:
            rest = rest ^ (HEAD_DIVISOR << place)
    return rest ^ HEAD_TURN


def message_sum(octets):
    """The sum that belongs behind these bytes at a message's end."""
    rest = MESSAGE_START
    for octet in octets:
        rest = rest ^ (octet << 24)
        for step in range(8):
            rest = rest << 1
            if rest > MESSAGE_START:
                rest = rest ^ MESSAGE_DIVISOR
    return rest ^ MESSAGE_START
