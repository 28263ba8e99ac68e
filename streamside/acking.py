"""What is acked."""

from streamside.segment import MOST_DATA
from streamside.sending import send_anew
from streamside.state import MOST_WAIT

LEAST_WAIT = 200


def measure(side, place):
    """Learns how long acks take, if what was timed is acked by this place."""
    if side.timed_place == 0 or side.timed_place > place:
        return
    took = side.now - side.timed_since
    if side.was_measured:
        side.off += abs(took - side.mean // 8) - side.off // 4
        side.mean += took - side.mean // 8
    else:
        side.was_measured = True
        side.mean = 8 * took
        side.off = 2 * took
    side.wait = min(MOST_WAIT, max(LEAST_WAIT, side.mean // 8 + max(1, side.off)))
    side.time_nothing()


def let_go(side, place):
    """What lies below a place is acked."""
    side.unacked = side.unacked[place - side.unacked_place():]
    side.first = place
    side.next_place = max(side.next_place, place)
    side.held = [one for one in side.held if one[1] > place]


def pace_after(side, count):
    """What so much that was acked does to how much may be on its way."""
    if side.mending == 0:
        side.same = 0
        if side.wide < side.slow:
            side.widen(min(count, MOST_DATA))
        else:
            side.widen(max(1, MOST_DATA * MOST_DATA // side.wide))
    elif side.mending <= side.first:
        side.mending = 0
        side.wide = side.slow
        side.same = 0
    else:
        side.wide = max(0, side.wide - count)
        side.widen(MOST_DATA)
        side.anew = max(side.anew, side.first)
        send_anew(side)


def take_new_ack(side, place):
    count = place - side.first
    measure(side, place)
    let_go(side, place)
    if place < side.top:
        side.put_off()
    else:
        side.due = None
    pace_after(side, count)


def start_mending(side):
    side.halve_slow()
    side.wide = side.slow + 3 * MOST_DATA
    side.mending = side.top
    side.anew = side.first
    send_anew(side)


def take_same_ack(side):
    if side.mending > 0:
        side.widen(MOST_DATA)
        send_anew(side)
        return
    side.same += 1
    if side.same == 3:
        start_mending(side)


def take_ack(side, place, is_quiet):
    if place > side.first:
        take_new_ack(side, place)
    elif place == side.first and side.first < side.top and is_quiet:
        take_same_ack(side)
