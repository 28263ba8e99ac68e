"""What comes to a side."""

from streamside.acking import measure, take_ack
from streamside.places import place_near, with_piece, with_range
from streamside.segment import ACKS, BEGIN, END, RESET
from streamside.sending import begin, refuse, say_ack, say_begin, send_all
from streamside.state import BOTH_ENDED, HAS_ANSWERED, HAS_BEGUN, IS_OPEN, LINGERS, RESET_BY_OTHER, WAITS

ACK_DELAY = 40


def meet(side, sender, segment):
    """Takes the other's begin."""
    side.name_other(sender, segment.from_port, segment.number)
    side.wanted = 1
    side.room = 1 + 64 * segment.window
    side.hear()


def come_to_waiting(side, sender, segment):
    if segment.has(RESET):
        return
    if segment.has(ACKS):
        refuse(side, sender, segment)
    elif segment.has(BEGIN):
        meet(side, sender, segment)
        side.phase = HAS_ANSWERED
        begin(side)


def come_to_begun(side, sender, segment):
    acks_begin = segment.has(ACKS) and place_near(segment.acked, side.base, side.top) == 1
    if segment.has(RESET):
        if acks_begin:
            side.finish(RESET_BY_OTHER)
    elif segment.has(ACKS) and not acks_begin:
        refuse(side, sender, segment)
    elif segment.has(BEGIN):
        meet(side, sender, segment)
        if acks_begin:
            become_open(side)
        else:
            side.phase = HAS_ANSWERED
            say_begin(side)


def become_open(side):
    side.phase = IS_OPEN
    measure(side, 1)
    side.first = 1
    side.tries = 0
    side.due = None
    say_ack(side)
    send_all(side)


def fits(side, segment, place):
    if place is None:
        return False
    size = len(segment.data)
    for flag in (BEGIN, END):
        if segment.has(flag):
            size += 1
    if size > 0:
        return place < side.edge and place + size > side.wanted
    return side.wanted <= place <= side.edge + 2


def come_to_linked(side, sender, segment):
    place = place_near(segment.number, side.their_base, side.wanted)
    if fits(side, segment, place):
        side.hear()
        take_fitting(side, sender, segment, place)
    elif not segment.has(RESET):
        say_ack(side)
        if side.phase == LINGERS:
            side.linger()


def take_fitting(side, sender, segment, place):
    if segment.has(RESET) and place == side.wanted:
        side.finish(RESET_BY_OTHER)
    elif segment.has(RESET) or segment.has(BEGIN):
        say_ack(side)
    elif segment.has(ACKS):
        take_acking(side, sender, segment, place)


def acked_place(side, segment):
    place = place_near(segment.acked, side.base, side.top)
    if place is None:
        return 0
    return place


def take_acking(side, sender, segment, place):
    acked = acked_place(side, segment)
    if side.phase == HAS_ANSWERED and not 1 <= acked <= side.top:
        refuse(side, sender, segment)
        return
    if acked > side.top:
        say_ack(side)
        return
    if side.phase == HAS_ANSWERED:
        side.phase = IS_OPEN
    side.tries = 0
    old_room = side.room
    side.room = max(side.room, acked + 64 * segment.window)
    hold_told(side, segment, acked)
    is_quiet = not segment.data and not segment.has(END) and side.room == old_room
    take_ack(side, acked, is_quiet)
    take_data(side, segment, place)
    send_all(side)
    if side.owed == 2:
        say_ack(side)
    end_if_both_ended(side)


def hold_told(side, segment, acked):
    """Holds the ranges that a segment tells, those that make sense."""
    for one in segment.ranges:
        start = place_near(one[0], side.base, side.top)
        behind = place_near(one[1], side.base, side.top)
        if start is None or behind is None:
            continue
        if max(acked, side.first) < start < behind <= side.top:
            side.held = with_range(side.held, start, behind)


def take_data(side, segment, place):
    """Takes a segment's data and end, and says what is owed for them."""
    if not segment.data and not segment.has(END):
        return
    had_pieces = len(side.pieces) > 0
    old_wanted = side.wanted
    add_piece(side, segment.data, place)
    if segment.has(END):
        learn_end(side, place + len(segment.data))
    make_readable(side)
    in_order = not had_pieces and not side.pieces and side.wanted > old_wanted
    if side.owed == 0 and in_order and not segment.has(END):
        side.owed = 1
        side.ack_due = side.now + ACK_DELAY
    else:
        side.owed = 2


def add_piece(side, data, place):
    start = max(place, side.wanted)
    behind = min(place + len(data), side.edge)
    if start < behind and not side.has_ended:
        side.pieces = with_piece(side.pieces, start, data[start - place:behind - place])


def learn_end(side, place):
    if side.end_place is None and side.wanted <= place <= side.edge:
        side.end_place = place


def make_readable(side):
    if side.pieces and side.pieces[0][0] == side.wanted:
        data = side.pieces[0][1]
        side.pieces = side.pieces[1:]
        side.unread = side.unread + data
        side.wanted += len(data)
    if side.end_place == side.wanted:
        side.wanted += 1
        side.has_ended = True
        side.closed_first = side.closing


def end_if_both_ended(side):
    if side.phase != IS_OPEN or not side.closing or side.first <= side.last or not side.has_ended:
        return
    if side.closed_first:
        side.linger()
        side.due = None
    else:
        side.finish(BOTH_ENDED)


def come(side, sender, segment):
    if side.phase == WAITS:
        come_to_waiting(side, sender, segment)
    elif side.phase == HAS_BEGUN:
        come_to_begun(side, sender, segment)
    else:
        come_to_linked(side, sender, segment)
