"""What time does to a side."""

from streamside.segment import MOST_DATA
from streamside.sending import say, say_ack, say_begin, send_all, send_one_byte
from streamside.state import BOTH_ENDED, HAS_ANSWERED, HAS_BEGUN, IS_OPEN, LINGERS, MOST_WAIT, NOBODY_ANSWERS

MOST_BEGINS = 5
MOST_TRIES = 8
MOST_ASKINGS = 5
ASKING_TIME = 10000


def go_on(side, now):
    """Time goes on, never back; what has become due is done."""
    side.now = max(side.now, now)
    if side.phase == LINGERS and side.now >= side.lingers_until:
        side.finish(BOTH_ENDED)
    if owes_later(side) and side.now >= side.ack_due:
        say_ack(side)
    if side.due is not None and side.now >= side.due:
        do_what_is_due(side)
    if is_to_ask(side):
        ask(side)


def owes_later(side):
    return side.is_linked() and side.owed == 1


def do_what_is_due(side):
    if side.phase == HAS_BEGUN or side.phase == HAS_ANSWERED:
        begin_again(side)
    elif side.phase == IS_OPEN and side.first < side.top:
        start_over(side)
    elif side.phase == IS_OPEN and side.next_place < side.last:
        send_one_byte(side)
        wait_longer(side)
    else:
        side.due = None


def wait_longer(side):
    side.wait = min(MOST_WAIT, 2 * side.wait)
    side.put_off()


def begin_again(side):
    if side.tries >= MOST_BEGINS:
        side.finish(NOBODY_ANSWERS)
        return
    say_begin(side)
    side.tries += 1
    wait_longer(side)
    side.time_nothing()


def start_over(side):
    """Nothing was heard of what was sent: it's sent from the first place on, one segment wide."""
    if side.tries >= MOST_TRIES:
        side.finish(NOBODY_ANSWERS)
        return
    side.halve_slow()
    side.wide = MOST_DATA
    side.next_place = side.first
    side.held = []
    side.mending = 0
    side.time_nothing()
    side.same = 0
    side.anew = 0
    side.tries += 1
    wait_longer(side)
    already = len(side.out)
    send_all(side)
    if len(side.out) == already and side.next_place < side.last:
        send_one_byte(side)


def asking_time(side):
    """When it will ask whether the other is still there, or None."""
    if side.kept == 0 or side.phase != IS_OPEN or side.first != side.top:
        return None
    return side.heard + side.kept + ASKING_TIME * side.askings


def is_to_ask(side):
    time = asking_time(side)
    return time is not None and side.now >= time


def ask(side):
    if side.askings >= MOST_ASKINGS:
        side.finish(NOBODY_ANSWERS)
        return
    side.askings += 1
    # A place the other has already: it answers with an ack.
    say(side, side.top - 1, 0, [])


def times_due(side):
    """All the times at which something is due."""
    times = []
    if side.phase == LINGERS:
        times.append(side.lingers_until)
    if owes_later(side):
        times.append(side.ack_due)
    for time in (side.due, asking_time(side)):
        if time is not None:
            times.append(time)
    return times
