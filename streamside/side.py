"""The calls on one side, laid out in one list, and their answers in another."""

from streamside.calls import begin_side, close, keep_up, read, reset, take_come
from streamside.calls import tell_all, tell_due, tick, wait_for_begin, write
from streamside.state import Side

BEGIN_SIDE = 1
WAIT_FOR_BEGIN = 2
TAKE_COME = 3
WRITE = 4
READ = 5
CLOSE = 6
RESET_SIDE = 7
TICK = 8
KEEP_UP = 9
TELL_DUE = 10

# How many whole numbers each call has ahead of its row, if it has one.
NUMBERS = {1: 6, 2: 4, 3: 2, 4: 1, 5: 2, 6: 1, 7: 1, 8: 1, 9: 2, 10: 0, 11: 0}
WITH_ROW = (3, 4)


def answer_of(side, call, numbers, row):
    if call == BEGIN_SIDE:
        return begin_side(side, numbers[0], numbers[1], numbers[2], numbers[3], numbers[4], numbers[5])
    if call == WAIT_FOR_BEGIN:
        return wait_for_begin(side, numbers[0], numbers[1], numbers[2], numbers[3])
    if call == TAKE_COME:
        return take_come(side, numbers[0], numbers[1], row)
    if call == WRITE:
        return write(side, numbers[0], row)
    if call == READ:
        return read(side, numbers[0], numbers[1])
    if call == CLOSE:
        return close(side, numbers[0])
    if call == RESET_SIDE:
        return reset(side, numbers[0])
    if call == TICK:
        return tick(side, numbers[0])
    if call == KEEP_UP:
        return keep_up(side, numbers[0], numbers[1])
    if call == TELL_DUE:
        return tell_due(side)
    return tell_all(side)


def laid_out(segments):
    """How many segments are to be sent, and of each to whom, how many bytes, these."""
    numbers = [len(segments)]
    for one in segments:
        numbers.append(one[0])
        numbers.append(len(one[1]))
        numbers.extend(one[1])
    return numbers


def answers(calls):
    """For each call how many numbers are answered, and these."""
    side = Side()
    told = []
    at = 0
    while at < len(calls):
        call = calls[at]
        behind = at + 1 + NUMBERS[call]
        numbers = calls[at + 1:behind]
        row = []
        if call in WITH_ROW:
            row = calls[behind + 1:behind + 1 + calls[behind]]
            behind += 1 + len(row)
        side.out = []
        answer = answer_of(side, call, numbers, row) + laid_out(side.out)
        told.append(len(answer))
        told.extend(answer)
        at = behind
    return told
