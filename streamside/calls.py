"""The calls: each answers a list of a number and, if that is no refusal, what else is told."""

from streamside.coming import come
from streamside.segment import RESET, read_segment
from streamside.sending import begin, edge_has_moved, say, say_ack, send_all
from streamside.state import HAS_BEGUN, IS_OVER, LINGERS, NO_PHASE, RESET_HERE, WAITS
from streamside.timing import go_on, times_due

MAY_NOT_BE = -1
NOT_THE_STREAMS = -2
NO_SEGMENT = -3
WRONG_PHASE = -4
HAS_ENDED = -6

MOST_ADDRESS = 4294967294
MOST_PORT = 65535
MOST_BASE = 4294967295
MOST_TIME = 4611686018427387904
MOST_KEPT = 2147483648
MOST_UNACKED = 65536
MOST_WRITTEN = 1073741824


def is_address(number):
    return 1 <= number <= MOST_ADDRESS


def is_port(number):
    return 1 <= number <= MOST_PORT


def is_base(number):
    return 0 <= number <= MOST_BASE


def is_time(number):
    return 0 <= number <= MOST_TIME


def is_idle(side):
    return side.phase == NO_PHASE or side.phase == IS_OVER


def start(side, now, phase):
    """A new side; its time doesn't go back."""
    side.now = max(side.now, now)
    side.renew()
    side.phase = phase


def begin_side(side, me, mine, them, theirs, base, now):
    if not (is_address(me) and is_port(mine) and is_address(them) and is_port(theirs)):
        return [MAY_NOT_BE]
    if not (is_base(base) and is_time(now)):
        return [MAY_NOT_BE]
    if not is_idle(side):
        return [WRONG_PHASE]
    start(side, now, HAS_BEGUN)
    side.name_ends(me, mine, base)
    side.name_other(them, theirs, 0)
    begin(side)
    return [0]


def wait_for_begin(side, me, mine, base, now):
    if not (is_address(me) and is_port(mine) and is_base(base) and is_time(now)):
        return [MAY_NOT_BE]
    if not is_idle(side):
        return [WRONG_PHASE]
    start(side, now, WAITS)
    side.name_ends(me, mine, base)
    return [0]


def is_of_stream(side, sender, segment):
    if segment.to_port != side.mine:
        return False
    return side.phase == WAITS or (sender == side.them and segment.from_port == side.theirs)


def take_come(side, sender, now, given):
    if not (is_address(sender) and is_time(now)):
        return [MAY_NOT_BE]
    go_on(side, now)
    if is_idle(side):
        return [WRONG_PHASE]
    segment = read_segment(given, sender, side.me)
    if segment is None:
        return [NO_SEGMENT]
    if not is_of_stream(side, sender, segment):
        return [NOT_THE_STREAMS]
    come(side, sender, segment)
    return [0]


def go_on_to_write(side, now):
    """Time goes on; the refusal of a side that takes nothing more to be sent, or 0."""
    if not is_time(now):
        return MAY_NOT_BE
    go_on(side, now)
    if side.phase == NO_PHASE or side.phase == WAITS:
        return WRONG_PHASE
    if side.phase == LINGERS or side.phase == IS_OVER or side.closing:
        return HAS_ENDED
    return 0


def write(side, now, given):
    refusal = go_on_to_write(side, now)
    if refusal < 0:
        return [refusal]
    written = side.last - 1
    taken = given[:min(MOST_UNACKED - len(side.unacked), MOST_WRITTEN - written)]
    side.unacked = side.unacked + taken
    side.last += len(taken)
    send_all(side)
    return [len(taken)]


def read(side, now, most):
    if not is_time(now):
        return [MAY_NOT_BE]
    go_on(side, now)
    if not side.unread:
        if side.phase == NO_PHASE or side.phase == WAITS:
            return [WRONG_PHASE]
        if side.has_ended or side.phase == IS_OVER:
            return [HAS_ENDED]
    data = side.unread[:most]
    side.unread = side.unread[len(data):]
    if side.is_linked() and not side.has_ended and edge_has_moved(side):
        say_ack(side)
    return [len(data)] + data


def close(side, now):
    refusal = go_on_to_write(side, now)
    if refusal < 0:
        return [refusal]
    side.closing = True
    send_all(side)
    return [0]


def reset(side, now):
    if not is_time(now):
        return [MAY_NOT_BE]
    go_on(side, now)
    if is_idle(side) or side.phase == LINGERS:
        return [WRONG_PHASE]
    if side.is_linked():
        say(side, side.top, RESET, [])
    side.finish(RESET_HERE)
    return [0]


def tick(side, now):
    if not is_time(now):
        return [MAY_NOT_BE]
    go_on(side, now)
    return [0]


def keep_up(side, now, time):
    if not (is_time(now) and 0 <= time <= MOST_KEPT):
        return [MAY_NOT_BE]
    go_on(side, now)
    side.kept = time
    side.hear()
    return [0]


def tell_due(side):
    times = times_due(side)
    if not times:
        return [0]
    return [1, min(times)]


def tell_all(side):
    sent = [side.last - 1, len(side.unacked), side.first, side.next_place, side.top, side.room]
    pace = [side.wide, side.slow, side.wait]
    taken = [side.wanted, len(side.unread), side.edge, len(side.pieces), 1 if side.has_ended else 0]
    return [0, side.phase, side.why] + sent + pace + taken
