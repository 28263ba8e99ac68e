"""What a side sends."""

from streamside.places import behind_ranges, number_of, up_to_range
from streamside.segment import ACKS, BEGIN, END, MOST_DATA, MOST_RANGES, RESET, Segment, written_out
from streamside.state import IS_OPEN

MOST_UNREAD = 65536
FIRST_WINDOW = 1024


def send(side, receiver, segment):
    side.out.append((receiver, written_out(segment, side.me, receiver)))


def refuse(side, sender, segment):
    """A reset that answers what acks something that was never sent."""
    send(side, sender, Segment(side.mine, segment.from_port, segment.acked, RESET, []))


def new_edge(side):
    return side.wanted + 64 * ((MOST_UNREAD - len(side.unread)) // 64)


def edge_has_moved(side):
    return new_edge(side) - side.edge >= MOST_DATA


def tell_what_came(side, segment):
    if edge_has_moved(side):
        side.edge = new_edge(side)
    segment.flags = segment.flags | ACKS
    segment.acked = number_of(side.their_base, side.wanted)
    # An end taken right at the edge leaves wanted above it.
    segment.window = max(0, side.edge - side.wanted) // 64
    for piece in side.pieces[:MOST_RANGES]:
        start = number_of(side.their_base, piece[0])
        segment.ranges.append((start, number_of(side.their_base, piece[0] + len(piece[1]))))
    side.owed = 0


def say(side, place, flags, data):
    segment = Segment(side.mine, side.theirs, number_of(side.base, place), flags, data)
    if side.is_linked():
        tell_what_came(side, segment)
    else:
        segment.window = FIRST_WINDOW
    send(side, side.them, segment)


def say_ack(side):
    say(side, side.top, 0, [])


def say_begin(side):
    say(side, 0, BEGIN, [])


def begin(side):
    """The first begin that is said, and what goes with it."""
    side.next_place = 1
    side.top = 1
    say_begin(side)
    side.put_off()
    side.time_place(1)


def bytes_from(side, place, count):
    at = place - side.unacked_place()
    return side.unacked[at:at + count]


def send_bytes(side, place, count, with_end):
    """Sends bytes, with the end or not, and answers the place behind them."""
    old_top = side.top
    behind = place + count
    if with_end:
        behind += 1
    say(side, place, END if with_end else 0, bytes_from(side, place, count))
    side.top = max(old_top, behind)
    if side.timed_place == 0 and place >= old_top:
        side.time_place(behind)
    if side.due is None:
        side.put_off()
    return behind


def send_next_bytes(side, count):
    with_end = side.closing and side.next_place + count == side.last
    side.next_place = send_bytes(side, side.next_place, count, with_end)


def sendable(side):
    """How many bytes may be sent from next on."""
    place = side.next_place
    count = min(MOST_DATA, side.last - place, side.first + side.wide - place, side.room - place)
    return up_to_range(side.held, place, max(0, count))


def is_held_back(side, count):
    """Whether few bytes wait for more, while others are on their way."""
    if side.closing and side.next_place + count == side.last:
        return False
    return count < MOST_DATA and side.first < side.next_place and side.next_place >= side.top


def send_step(side):
    """One step of sending all that may be sent; whether there was one."""
    behind = behind_ranges(side.held, side.next_place)
    if behind > side.next_place:
        side.next_place = behind
        return True
    if side.next_place < side.last:
        count = sendable(side)
        if count == 0 or is_held_back(side, count):
            return False
        send_next_bytes(side, count)
        return True
    if side.next_place == side.last and side.closing:
        send_next_bytes(side, 0)
        return True
    return False


def send_all(side):
    """Sends all that may be sent."""
    if side.phase != IS_OPEN:
        return
    going = True
    while going:
        going = send_step(side)
    if side.due is None and (side.first < side.top or side.next_place < side.last):
        side.put_off()


def send_one_byte(side):
    """A byte that asks for room; its ack tells nothing of the time that acks take."""
    send_next_bytes(side, 1)
    side.time_nothing()


def may_be_sent_anew(side, place):
    if place >= side.top:
        return False
    if side.held:
        return place < side.held[-1][0]
    return place == side.first


def send_anew(side):
    place = behind_ranges(side.held, max(side.first, side.anew))
    if not may_be_sent_anew(side, place):
        return
    count = up_to_range(side.held, place, min(MOST_DATA, side.last - place, side.top - place))
    with_end = side.closing and place + count == side.last and side.top > side.last
    side.anew = send_bytes(side, place, count, with_end)
    side.time_nothing()
