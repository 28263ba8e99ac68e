"""Segments: what they hold, and their bytes."""

BEGIN = 1
END = 2
ACKS = 4
RESET = 8
ALL_FLAGS = 15
HEAD_SIZE = 20
RANGE_SIZE = 8
MOST_RANGES = 4
MOST_DATA = 1400


class Segment:
    """One segment; its ranges are pairs of numbers."""

    def __init__(self, from_port, to_port, number, flags, data):
        self.from_port = from_port
        self.to_port = to_port
        self.number = number
        self.acked = 0
        self.flags = flags
        self.window = 0
        self.ranges = []
        self.data = data

    def has(self, flag):
        return self.flags & flag != 0


def bytes_of(number, count):
    """A number in so many bytes, the highest first."""
    return [number >> 8 * (count - 1 - at) & 255 for at in range(count)]


def number_in(given, at, count):
    """The number that so many bytes hold, the highest first."""
    number = 0
    for one in given[at:at + count]:
        number = number * 256 + one
    return number


def sum_of(sender, receiver, given):
    """The sum over a segment's bytes, whose own sum is 0 in them."""
    whole = bytes_of(sender, 4) + bytes_of(receiver, 4) + [0, 3] + bytes_of(len(given), 2) + given
    total = 256 * sum(whole[0::2]) + sum(whole[1::2])
    while total > 65535:
        total = total % 65536 + total // 65536
    if total == 65535:
        return 65535
    return 65535 - total


def written_out(segment, sender, receiver):
    """A segment's bytes."""
    start = bytes_of(segment.from_port, 2) + bytes_of(segment.to_port, 2)
    start.extend(bytes_of(segment.number, 4) + bytes_of(segment.acked, 4))
    start.extend([segment.flags, len(segment.ranges)] + bytes_of(segment.window, 2))
    rest = [0, 0]
    for one in segment.ranges:
        rest.extend(bytes_of(one[0], 4) + bytes_of(one[1], 4))
    rest.extend(segment.data)
    return start + bytes_of(sum_of(sender, receiver, start + [0, 0] + rest), 2) + rest


def has_form(given):
    """Whether bytes are laid out as a segment's are, whatever their sum."""
    if len(given) < HEAD_SIZE or given[12] > ALL_FLAGS or given[13] > MOST_RANGES:
        return False
    size = len(given) - HEAD_SIZE - RANGE_SIZE * given[13]
    return 0 <= size <= MOST_DATA and given[18] == 0 and given[19] == 0


def read_segment(given, sender, receiver):
    """The segment whose bytes these are, or None."""
    if not has_form(given):
        return None
    if sum_of(sender, receiver, given[:16] + [0, 0] + given[18:]) != number_in(given, 16, 2):
        return None
    behind = HEAD_SIZE + RANGE_SIZE * given[13]
    segment = Segment(number_in(given, 0, 2), number_in(given, 2, 2), number_in(given, 4, 4), given[12], given[behind:])
    segment.acked = number_in(given, 8, 4)
    segment.window = number_in(given, 14, 2)
    for at in range(HEAD_SIZE, behind, RANGE_SIZE):
        segment.ranges.append((number_in(given, at, 4), number_in(given, at + 4, 4)))
    return segment
