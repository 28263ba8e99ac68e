"""What the tests share: segments made and read by other means than the program's own, and lines of calls."""

import struct
import unittest
from collections import namedtuple

from streamside.side import answers

BEGIN, END, ACKS, RESET = 1, 2, 4, 8
MODULUS = 2 ** 32
ME, MINE, BASE = 10, 100, 5000
THEM, THEIRS, OTHER_BASE = 20, 200, 900000
FULL = 1024

Seen = namedtuple("Seen", "to ports number acked flags window ranges data")
Answer = namedtuple("Answer", "number told sent")
Heard = namedtuple("Heard", "place acked flags window ranges data")
Told = namedtuple("Told", "phase why written unacked first next top room wide slow wait wanted unread edge pieces ended")


def checksum(sender, receiver, raw):
    whole = struct.pack(">IIHH", sender, receiver, 3, len(raw)) + bytes(raw)
    if len(whole) % 2:
        whole += b"\0"
    total = 0
    for (word,) in struct.iter_unpack(">H", whole):
        total += word
        total = (total & 0xFFFF) + (total >> 16)
    return (0xFFFF - total) or 0xFFFF


def packed(sender, receiver, ports, number, acked, flags, window=FULL, ranges=(), data=b"", tail=0, count=None):
    """A segment's bytes, with a right sum, whatever else may be wrong with it."""
    count = len(ranges) if count is None else count

    def with_sum(value):
        head = struct.pack(">HHIIBBHHH", *ports, number % MODULUS, acked % MODULUS, flags, count, window, value, tail)
        pairs = [struct.pack(">II", a % MODULUS, b % MODULUS) for a, b in ranges]
        return head + b"".join(pairs) + bytes(data)

    return list(with_sum(checksum(sender, receiver, with_sum(0))))


def unpacked(sender, receiver, raw):
    raw = bytes(raw)
    from_port, to_port, number, acked, flags, count, window, total, tail = struct.unpack(">HHIIBBHHH", raw[:20])
    bare = raw[:16] + b"\0\0" + raw[18:]
    if total != checksum(sender, receiver, bare) or tail or flags > 15 or count > 4:
        raise AssertionError("no segment was sent")
    ranges = [struct.unpack(">II", raw[20 + 8 * at:28 + 8 * at]) for at in range(count)]
    data = raw[20 + 8 * count:]
    if len(data) > 1400:
        raise AssertionError("too much data was sent")
    return Seen(receiver, (from_port, to_port), number, acked, flags, window, ranges, data)


def told_behind(call, number):
    """How many numbers are told behind the one that a call answers."""
    if call == 5:
        return max(0, number)
    if call == 10:
        return number
    return 16 if call == 11 else 0


def one_answer(call, numbers, me):
    """The answer to a call, taken apart; it must be as long as it says."""
    number = numbers[0]
    at = 1
    more = told_behind(call, number)
    told = numbers[at:at + more]
    at += more
    sent = []
    count = numbers[at]
    at += 1
    for _ in range(count):
        to, size = numbers[at:at + 2]
        sent.append(unpacked(me, to, numbers[at + 2:at + 2 + size]))
        at += 2 + size
    if at != len(numbers):
        raise AssertionError("an answer is longer than told")
    return Answer(number, told, sent)


class Line:
    """A line of calls on one side, answered anew with each call that is added."""

    def __init__(self, me=ME):
        self.me = me
        self.calls = []

    def asked(self, call, numbers, row):
        calls = self.calls + [call] + list(numbers)
        if row is not None:
            calls += [len(row)] + list(row)
        return calls

    def last_of(self, call, calls):
        given = answers(calls)
        at = 0
        while at + 1 + given[at] < len(given):
            at += 1 + given[at]
        return one_answer(call, given[at + 1:], self.me)

    def add(self, call, numbers, row=None):
        self.calls = self.asked(call, numbers, row)
        return self.last_of(call, self.calls)

    def begin(self, me=ME, mine=MINE, them=THEM, theirs=THEIRS, base=BASE, now=0):
        return self.add(1, (me, mine, them, theirs, base, now))

    def wait(self, me=ME, mine=MINE, base=BASE, now=0):
        return self.add(2, (me, mine, base, now))

    def came(self, sender, now, raw):
        return self.add(3, (sender, now), raw)

    def write(self, now, data):
        return self.add(4, (now,), data)

    def read(self, now, most=2 ** 64 - 1):
        return self.add(5, (now, most))

    def close(self, now):
        return self.add(6, (now,))

    def reset(self, now):
        return self.add(7, (now,))

    def tick(self, now):
        return self.add(8, (now,))

    def keep(self, now, time):
        return self.add(9, (now, time))

    def due(self):
        """The time that due tells, or None; the line stays as it is."""
        answer = self.last_of(10, self.asked(10, (), None))
        if answer.sent or answer.number not in (0, 1):
            raise AssertionError("due answers otherwise")
        return answer.told[0] if answer.number else None

    def told(self):
        """What told tells; the line stays as it is."""
        answer = self.last_of(11, self.asked(11, (), None))
        if answer.sent or answer.number != 0:
            raise AssertionError("told answers otherwise")
        return Told(*answer.told)

    def peek(self, now):
        """What time alone would send; the line stays as it is."""
        return self.last_of(5, self.asked(5, (now, 0), None))

    def hear(self, now, place, acked, flags=ACKS, window=0, ranges=(), data=b""):
        """What the other says comes, told in places."""
        return self.came(THEM, now, from_other(place, acked, flags, window, ranges, data))

    def pass_on(self, now):
        """Time goes on."""
        return self.read(now, 0)


def from_other(place, acked=None, flags=ACKS, window=0, ranges=(), data=b""):
    number = OTHER_BASE + place
    acked = 0 if acked is None else BASE + acked
    ranges = [(BASE + a, BASE + b) for a, b in ranges]
    return packed(THEM, ME, (THEIRS, MINE), number, acked, flags, window, ranges, data)


def heard(seen):
    """A segment of the usual stream, in places."""
    acked = (seen.acked - OTHER_BASE) % MODULUS if seen.flags & ACKS else None
    ranges = [((a - OTHER_BASE) % MODULUS, (b - OTHER_BASE) % MODULUS) for a, b in seen.ranges]
    return Heard((seen.number - BASE) % MODULUS, acked, seen.flags, seen.window, ranges, seen.data)


def text(start, count):
    """The bytes at so many places: no two places near one another have the same."""
    return bytes((place * 7 + place // 256) % 256 for place in range(start, start + count))


def opened(window=FULL, rtt=100):
    """A side in phase 4 that began, whose wait is 3 * rtt (200 at least), at time rtt."""
    line = Line()
    line.begin()
    line.hear(rtt, 0, 1, BEGIN | ACKS, window)
    return line


def answered(window=FULL, now=0):
    """A side in phase 3 that waited."""
    line = Line()
    line.wait(now=now)
    line.hear(now, 0, None, BEGIN, window)
    return line


def lines_by_phase():
    """A line in each of the phases, before time 1000."""
    waits = Line()
    waits.wait()
    begun = Line()
    begun.begin()
    lingers = opened()
    lingers.close(110)
    lingers.hear(120, 1, 2, ACKS | END)
    over = opened()
    over.hear(110, 1, 1, RESET)
    return {0: Line(), 1: waits, 2: begun, 3: answered(), 4: opened(), 5: lingers, 6: over}


class SideTest(unittest.TestCase):
    def assert_sent(self, answer, expected, number=0):
        """What a call answered, and its segments as (place, flags, data)."""
        self.assertEqual(answer.number, number)
        got = [heard(seen) for seen in answer.sent]
        self.assertEqual([(one.place, one.flags, one.data) for one in got], expected)
        for seen in answer.sent:
            self.assertEqual((seen.to, seen.ports), (THEM, (MINE, THEIRS)))

    def assert_places(self, answer, expected):
        """The segments of an answer as (first place, place behind)."""
        got = [heard(seen) for seen in answer.sent]
        ends = [(one.place, one.place + len(one.data) + (1 if one.flags & END else 0)) for one in got]
        self.assertEqual(ends, expected)
        for one in got:
            self.assertEqual(one.data, text(one.place, len(one.data)))

    def assert_ack(self, answer, place, acked, window=FULL, ranges=(), number=0):
        """One ack and nothing else."""
        self.assertEqual(answer.number, number)
        self.assertEqual([heard(seen) for seen in answer.sent], [Heard(place, acked, ACKS, window, list(ranges), b"")])

    def assert_nothing(self, answer, number=0):
        self.assertEqual((answer.number, answer.sent), (number, []))

    def assert_due(self, line, time):
        """Time sends something just then, not before."""
        self.assertEqual(line.peek(time - 1).sent, [])
        self.assertNotEqual(line.peek(time).sent, [])

    def assert_reset(self, answer, number, to=THEM, ports=(MINE, THEIRS)):
        """A refusal of what came: a bare reset."""
        self.assertEqual(answer.number, 0)
        self.assertEqual(answer.sent, [Seen(to, ports, number % MODULUS, 0, RESET, 0, [], b"")])
