"""All eleven calls in long mixed lists: the answers are those of the document's words, written down a second time."""

import random
import struct
import unittest

from streamside.side import answers
from tests.helper import ACKS, BEGIN, END, MODULUS, RESET, packed, text

SEGMENT = 1400
HEAD = 20


def runs(places):
    """The ranges, as long as can be, that some places make up."""
    result = []
    for place in sorted(places):
        if result and result[-1][1] == place:
            result[-1][1] = place + 1
        else:
            result.append([place, place + 1])
    return result


def nearest(number, base, about):
    """The place nearest to another that a number tells, or None."""
    place = about - about % MODULUS + (number - base) % MODULUS
    near = [one for one in (place - MODULUS, place, place + MODULUS) if about - 2 ** 31 <= one < about + 2 ** 31]
    return near[0] if near[0] >= 0 else None


class Come:
    """Bytes read as a segment; they're one's bytes just if it's written out as them again."""

    def __init__(self, sender, receiver, raw):
        self.is_one = False
        if len(raw) < HEAD:
            return
        ports, words = struct.unpack(">HH", bytes(raw[:4])), struct.unpack(">IIBBH", bytes(raw[4:16]))
        self.from_port, self.to_port = ports
        self.number, self.acked, self.flags, count, self.window = words
        behind = HEAD + 8 * count
        if self.flags > 15 or count > 4 or not behind <= len(raw) <= behind + SEGMENT:
            return
        self.ranges = [struct.unpack(">II", bytes(raw[at:at + 8])) for at in range(HEAD, behind, 8)]
        self.data = bytes(raw[behind:])
        again = packed(sender, receiver, ports, self.number, self.acked, self.flags, self.window, self.ranges, self.data)
        self.is_one = again == list(raw)

    def has(self, flag):
        return self.flags & flag > 0


class Words:
    """The document's words. What's held and what's come beyond wanted is kept place by place."""

    def __init__(self):
        self.now = 0
        self.sent = []
        self.new(0)

    def new(self, phase):
        self.phase, self.why = phase, 0
        self.me = self.mine = self.base = self.them = self.theirs = self.their_base = 0
        self.written, self.closing = b"", False
        self.first = self.next = self.top = self.room = 0
        self.held = set()
        self.wide, self.slow, self.same = 5600, 1048576, 0
        self.mending, self.anew = None, 0
        self.mean = self.off = None
        self.wait, self.timed, self.due, self.tries = 1000, None, None, 0
        self.wanted, self.unread, self.pieces = 0, b"", {}
        self.end, self.has_come, self.was_closing = None, False, False
        self.edge, self.owed, self.owed_at = 0, 0, None
        self.over_at = None
        self.kept, self.heard, self.askings = 0, self.now, 0

    @property
    def last(self):
        return 1 + len(self.written)

    # What it sends.

    def say(self, place, flags, data=b""):
        acked, window, ranges = 0, 1024, []
        if self.phase in (3, 4, 5):
            told = self.wanted + (65536 - len(self.unread)) // 64 * 64
            if told >= self.edge + 1400:
                self.edge = told
            flags |= ACKS
            acked = self.their_base + self.wanted
            window = max(0, self.edge - self.wanted) // 64
            ranges = [[self.their_base + one for one in pair] for pair in runs(self.pieces)[:4]]
            self.owed = 0
        raw = packed(self.me, self.them, (self.mine, self.theirs), self.base + place, acked, flags, window, ranges, data)
        self.sent.append((self.them, raw))

    def ack(self):
        self.say(self.top, 0)

    def refuse(self, sender, come):
        self.sent.append((sender, packed(self.me, sender, (self.mine, come.from_port), come.acked, 0, RESET, 0)))

    def later(self):
        self.due = self.now + self.wait

    def send_bytes(self, place, count, with_end):
        old, behind = self.top, place + count + with_end
        self.say(place, END if with_end else 0, self.written[place - 1:place - 1 + count])
        self.top = max(old, behind)
        if self.timed is None and place >= old:
            self.timed = (behind, self.now)
        if self.due is None:
            self.later()
        return behind

    def up_to_held(self, place):
        return min([one - place for one in self.held if one >= place], default=MODULUS)

    def behind_held(self, place):
        while place in self.held:
            place += 1
        return place

    def send_all(self):
        if self.phase != 4:
            return
        while True:
            self.next = self.behind_held(self.next)
            count = 0
            if self.next < self.last:
                limits = (self.last, self.first + self.wide, self.room)
                count = max(0, min([one - self.next for one in limits] + [SEGMENT, self.up_to_held(self.next)]))
            with_end = self.closing and self.next + count == self.last
            if self.next < self.last and count == 0 or self.next == self.last and not with_end or self.next > self.last:
                break
            if not with_end and count < SEGMENT and self.first < self.next and self.next >= self.top:
                break
            self.next = self.send_bytes(self.next, count, with_end)
        if self.due is None and (self.first < self.top or self.next < self.last):
            self.later()

    def send_anew(self):
        place = self.behind_held(max(self.first, self.anew))
        if place >= self.top:
            return
        if self.held and place >= runs(self.held)[-1][0] or not self.held and place != self.first:
            return
        count = min(SEGMENT, self.last - place, self.top - place, self.up_to_held(place))
        with_end = self.closing and place + count == self.last and self.top > self.last
        self.timed = None
        self.anew = self.send_bytes(place, count, with_end)
        self.timed = None

    def send_one(self):
        self.next = self.send_bytes(self.next, 1, self.closing and self.next + 1 == self.last)
        self.timed = None

    # What's acked.

    def measure(self, place):
        if self.timed is None or self.timed[0] > place:
            return
        took = self.now - self.timed[1]
        if self.mean is None:
            self.mean, self.off = 8 * took, 2 * took
        else:
            self.off = self.off - self.off // 4 + abs(took - self.mean // 8)
            self.mean = self.mean - self.mean // 8 + took
        self.wait = min(60000, max(200, self.mean // 8 + max(1, self.off)))
        self.timed = None

    def widen(self, more):
        self.wide = min(1048576, self.wide + more)

    def halve(self):
        self.slow = max(2800, (self.top - self.first) // 2)

    def take_ack(self, place, quiet):
        if place > self.first:
            self.take_new_ack(place, place - self.first)
        elif place == self.first and self.first < self.top and quiet:
            if self.mending is not None:
                self.widen(1400)
                self.send_anew()
                return
            self.same += 1
            if self.same == 3:
                self.halve()
                self.wide, self.mending, self.anew = self.slow + 4200, self.top, self.first
                self.send_anew()

    def take_new_ack(self, place, count):
        self.measure(place)
        self.first, self.next = place, max(self.next, place)
        self.held = {one for one in self.held if one >= place}
        self.due = None
        if place < self.top:
            self.later()
        if self.mending is not None and self.mending <= place:
            self.mending, self.wide, self.same = None, self.slow, 0
        elif self.mending is not None:
            self.wide = max(1400, self.wide - min(count, self.wide) + 1400)
            self.anew = max(self.anew, place)
            self.send_anew()
        else:
            self.same = 0
            self.widen(min(count, 1400) if self.wide < self.slow else max(1, 1400 * 1400 // self.wide))

    # What comes.

    def hear(self):
        self.heard, self.askings = self.now, 0

    def over(self, why):
        self.phase, self.why = 6, why
        self.due = self.timed = None
        self.owed = 0

    def linger(self):
        self.phase, self.over_at = 5, self.now + 60000

    def meet(self, sender, come):
        self.them, self.theirs, self.their_base = sender, come.from_port, come.number
        self.wanted, self.room = 1, 1 + 64 * come.window
        self.hear()

    def first_begin(self):
        self.next = self.top = 1
        self.say(0, BEGIN)
        self.later()
        self.timed = (1, self.now)

    def come(self, sender, come):
        if self.phase == 1:
            self.come_in_1(sender, come)
        elif self.phase == 2:
            self.come_in_2(sender, come)
        else:
            self.come_in_3_to_5(sender, come)

    def come_in_1(self, sender, come):
        if come.has(RESET):
            return
        if come.has(ACKS):
            self.refuse(sender, come)
        elif come.has(BEGIN):
            self.meet(sender, come)
            self.phase = 3
            self.first_begin()

    def come_in_2(self, sender, come):
        acks_one = come.has(ACKS) and come.acked == (self.base + 1) % MODULUS
        if come.has(RESET):
            if acks_one:
                self.over(2)
            return
        if come.has(ACKS) and not acks_one:
            self.refuse(sender, come)
        elif come.has(BEGIN):
            self.meet(sender, come)
            if not acks_one:
                self.phase = 3
                self.say(0, BEGIN)
                return
            self.phase = 4
            self.measure(1)
            self.first, self.tries, self.due = 1, 0, None
            self.ack()
            self.send_all()

    def fits(self, come, place):
        size = len(come.data) + come.has(BEGIN) + come.has(END)
        if place is None:
            return False
        if size:
            return place < self.edge and place + size > self.wanted
        return self.wanted <= place <= self.edge + 2

    def come_in_3_to_5(self, sender, come):
        place = nearest(come.number, self.their_base, self.wanted)
        if not self.fits(come, place):
            if not come.has(RESET):
                self.ack()
                if self.phase == 5:
                    self.linger()
            return
        self.hear()
        if come.has(RESET) and place == self.wanted:
            self.over(2)
        elif come.has(RESET) or come.has(BEGIN):
            self.ack()
        elif come.has(ACKS):
            self.come_that_acks(sender, come, place)

    def come_that_acks(self, sender, come, place):
        acked = nearest(come.acked, self.base, self.top) or 0
        if self.phase == 3 and not 1 <= acked <= self.top:
            self.refuse(sender, come)
            return
        if acked > self.top:
            self.ack()
            return
        self.phase = max(self.phase, 4)
        self.tries = 0
        more = acked + 64 * come.window > self.room
        self.room = max(self.room, acked + 64 * come.window)
        for pair in come.ranges:
            start, behind = [nearest(one, self.base, self.top) for one in pair]
            if None not in (start, behind) and max(acked, self.first) < start and behind <= self.top:
                self.held |= set(range(start, behind))
        self.take_ack(acked, not come.data and not come.has(END) and not more)
        self.take(come, place)
        self.send_all()
        if self.owed == 2:
            self.ack()
        if self.phase == 4 and self.closing and self.first > self.last and self.has_come:
            if self.was_closing:
                self.linger()
                self.due = None
            else:
                self.over(1)

    def take(self, come, place):
        if not come.data and not come.has(END):
            return
        had, old = bool(self.pieces), self.wanted
        for at, one in enumerate(come.data):
            if self.wanted <= place + at < self.edge and not self.has_come:
                self.pieces.setdefault(place + at, one)
        end = place + len(come.data)
        if come.has(END) and self.end is None and self.wanted <= end <= self.edge:
            self.end = end
        while self.wanted in self.pieces:
            self.unread += bytes([self.pieces.pop(self.wanted)])
            self.wanted += 1
        if self.wanted == self.end:
            self.wanted += 1
            self.has_come, self.was_closing = True, self.closing
        if self.owed == 0 and not come.has(END) and not had and not self.pieces and self.wanted > old:
            self.owed, self.owed_at = 1, self.now + 40
        else:
            self.owed = 2

    # Time.

    def asking_at(self):
        if self.kept > 0 and self.phase == 4 and self.first == self.top:
            return self.heard + self.kept + 10000 * self.askings
        return None

    def go_on(self, now):
        self.now = max(self.now, now)
        if self.phase == 5 and self.over_at <= self.now:
            self.over(1)
        if self.phase in (3, 4, 5) and self.owed == 1 and self.owed_at <= self.now:
            self.ack()
        if self.due is not None and self.due <= self.now:
            self.do_due()
        if self.asking_at() is not None and self.asking_at() <= self.now:
            if self.askings == 5:
                self.over(3)
            else:
                self.askings += 1
                self.say(self.top - 1, 0)

    def double_wait(self):
        self.wait = min(60000, 2 * self.wait)
        self.later()

    def do_due(self):
        if self.phase in (2, 3):
            if self.tries == 5:
                self.over(3)
                return
            self.say(0, BEGIN)
            self.tries += 1
            self.double_wait()
            self.timed = None
        elif self.phase == 4 and self.first < self.top:
            self.start_over()
        elif self.phase == 4 and self.next < self.last:
            self.send_one()
            self.double_wait()
        else:
            self.due = None

    def start_over(self):
        if self.tries == 8:
            self.over(3)
            return
        self.halve()
        self.wide, self.next, self.held = 1400, self.first, set()
        self.mending, self.timed, self.same, self.anew = None, None, 0, 0
        self.tries += 1
        self.double_wait()
        before = len(self.sent)
        self.send_all()
        if len(self.sent) == before and self.next < self.last:
            self.send_one()

    # The calls.

    def call(self, call, numbers, row=b""):
        """The whole answer to a call."""
        self.sent = []
        may_be = self.may_be(call, numbers)
        if may_be and call in (3, 4, 5, 6, 7, 8, 9):
            self.go_on(numbers[1 if call == 3 else 0])
        answer = self.answer(call, numbers, bytes(row)) if may_be else [-1]
        answer += [len(self.sent)]
        for to, raw in self.sent:
            answer += [to, len(raw)] + raw
        return answer

    def may_be(self, call, numbers):
        address, port, base = (1, 2 ** 32 - 2), (1, 65535), (0, 2 ** 32 - 1)
        time, kept, any_number = (0, 2 ** 62), (0, 2 ** 31), (0, 2 ** 64 - 1)
        limits = {1: (address, port, address, port, base, time), 2: (address, port, base, time), 3: (address, time),
                  5: (time, any_number), 9: (time, kept), 10: (), 11: ()}.get(call, (time,))
        return all(low <= one <= high for one, (low, high) in zip(numbers, limits, strict=True))

    def answer(self, call, numbers, row):
        if call in (1, 2):
            return self.start(*numbers) if call == 1 else self.start_to_wait(*numbers)
        if call == 3:
            return self.take_come(numbers[0], row)
        if call in (4, 6):
            return self.write(row) if call == 4 else self.close()
        if call == 5:
            return self.read(numbers[1])
        if call == 7:
            return self.reset()
        if call == 9:
            self.kept = numbers[1]
            self.hear()
        if call == 10:
            return self.tell_due()
        return [0] + (self.tell() if call == 11 else [])

    def start(self, me, mine, them, theirs, base, now):
        if self.phase not in (0, 6):
            return [-4]
        self.now = max(self.now, now)
        self.new(2)
        self.me, self.mine, self.base, self.them, self.theirs = me, mine, base, them, theirs
        self.first_begin()
        return [0]

    def start_to_wait(self, me, mine, base, now):
        if self.phase not in (0, 6):
            return [-4]
        self.now = max(self.now, now)
        self.new(1)
        self.me, self.mine, self.base = me, mine, base
        return [0]

    def take_come(self, sender, raw):
        if self.phase in (0, 6):
            return [-4]
        come = Come(sender, self.me, raw)
        if not come.is_one:
            return [-3]
        if come.to_port != self.mine or self.phase > 1 and (sender, come.from_port) != (self.them, self.theirs):
            return [-2]
        self.come(sender, come)
        return [0]

    def refusal_to_write(self):
        if self.phase in (0, 1):
            return -4
        return -6 if self.phase in (5, 6) or self.closing else 0

    def unacked(self):
        return len(self.written) - min(len(self.written), max(0, self.first - 1))

    def write(self, row):
        if self.refusal_to_write():
            return [self.refusal_to_write()]
        taken = row[:65536 - self.unacked()]
        self.written += taken
        self.send_all()
        return [len(taken)]

    def close(self):
        if self.refusal_to_write():
            return [self.refusal_to_write()]
        self.closing = True
        self.send_all()
        return [0]

    def read(self, most):
        if not self.unread and self.phase in (0, 1):
            return [-4]
        if not self.unread and (self.has_come or self.phase == 6):
            return [-6]
        data, self.unread = self.unread[:most], self.unread[most:]
        anew = self.wanted + (65536 - len(self.unread)) // 64 * 64 >= self.edge + 1400
        if self.phase in (3, 4, 5) and not self.has_come and anew:
            self.ack()
        return [len(data)] + list(data)

    def reset(self):
        if self.phase in (0, 5, 6):
            return [-4]
        if self.phase in (3, 4):
            self.say(self.top, RESET)
        self.over(4)
        return [0]

    def tell_due(self):
        owed = self.owed_at if self.owed and self.phase in (3, 4, 5) else None
        times = [self.over_at if self.phase == 5 else None, owed, self.due, self.asking_at()]
        times = [one for one in times if one is not None]
        return [1, min(times)] if times else [0]

    def tell(self):
        return [self.phase, self.why, len(self.written), self.unacked(), self.first, self.next, self.top, self.room,
                self.wide, self.slow, self.wait, self.wanted, len(self.unread), self.edge, len(runs(self.pieces)),
                int(self.has_come)]


class Mixed:
    """A list of calls that go where something happens, and what the words answer to them."""

    def __init__(self, seed, most_numbers=16000, most_calls=3000):
        self.chance = random.Random(seed)
        self.words = Words()
        self.calls = []
        self.each = []
        self.expected = []
        self.phases = set()
        self.whys = set()
        self.big = self.chance.random() < 0.6
        self.is_silent = False
        self.their_base = self.a_base()
        while len(self.each) < most_calls:
            call = self.next_call()
            size = 1 + len(call[1]) + (0 if call[2] is None else 1 + len(call[2]))
            if len(self.calls) + size > most_numbers:
                break
            self.add(*call)

    def add(self, call, numbers, row):
        flat = [call] + list(numbers) + ([] if row is None else [len(row)] + list(row))
        self.calls += flat
        self.each.append(flat)
        answer = self.words.call(call, numbers, row or b"")
        self.expected.append(answer)
        self.phases.add(self.words.phase)
        self.whys.add(self.words.why)

    def pick(self, *choices):
        """One of some choices, each told with its weight."""
        whole = [one for one, _ in choices]
        return self.chance.choices(whole, [weight for _, weight in choices])[0]

    def a_base(self):
        return self.chance.choice((0, 7, 2 ** 31, MODULUS - 1, MODULUS - 2000, self.chance.randrange(MODULUS)))

    def time(self):
        now, chance = self.words.now, self.chance
        due = self.words.tell_due()
        due = due[1] if due[0] else now + 1000
        far = now + chance.randrange(1, 10 ** 6)
        soon = now + chance.choice((0, 0, 1, 5, 20, 39, 40, 41, 100))
        wrong = chance.choice((2 ** 62 + 1, 2 ** 64 - 1))
        past = chance.randrange(now + 1)
        around = max(0, due + chance.choice((-1, 0, 0, 0, 1, 7)))
        return self.pick((soon, 60), (around, 150 if self.is_silent else 15), (past, 4), (far, 0.5), (2 ** 62, 0.01),
                         (wrong, 1))

    def next_call(self):
        idle = self.words.phase in (0, 6)
        if self.chance.random() < 0.02:
            self.is_silent = not self.is_silent
        came = 1 if self.is_silent else 60
        call = self.pick((1, 30 if idle else 0.5), (2, 15 if idle else 0.5), (3, 5 if idle else came), (4, 8), (5, 6),
                         (6, 1.2), (7, 0.3), (8, 12), (9, 1 if self.is_silent else 3), (10, 3), (11, 6))
        if call == 1:
            return call, self.wrong(self.ends() + [self.chance.randrange(1, 5), 200, self.a_base(), self.time()], 2), None
        if call == 2:
            return call, self.wrong(self.ends() + [self.a_base(), self.time()], 2), None
        if call == 3:
            return self.came()
        if call == 4:
            size = self.pick((0, 1), (self.chance.randrange(1, 40), 10), (self.chance.randrange(100, 3000), 5 * self.big))
            return call, [self.time()], text(self.words.last, size)
        if call == 5:
            return call, [self.time(), self.chance.choice((0, 1, 100, 2000, 2 ** 64 - 1))], None
        if call == 9:
            kept = self.chance.choice((0, 1, 500, 5000, 30000, 2 ** 31, 2 ** 31 + 1))
            return call, [self.time(), kept], None
        return call, [] if call > 9 else [self.time()], None

    def ends(self):
        return [self.chance.choice((1, 10, 2 ** 32 - 2)), 100]

    def wrong(self, numbers, percent):
        """The same numbers, or one of them wrong."""
        if self.chance.random() * 100 < percent:
            numbers[self.chance.randrange(len(numbers))] = self.chance.choice((0, 65536, 2 ** 32 - 1, 2 ** 63))
        return numbers

    def came(self):
        words, chance = self.words, self.chance
        sender = words.them if words.phase > 1 else chance.randrange(1, 5)
        ports = [words.theirs if words.phase > 1 else 200, words.mine]
        if chance.random() < 0.02:
            ports[chance.randrange(2)] += 1
        number, acked, flags, window, ranges, data = self.segment()
        raw = packed(sender, words.me, ports, number, acked, flags, window, ranges, data)
        if chance.random() < 0.02:
            raw[chance.randrange(len(raw))] ^= 1 << chance.randrange(8)
        if chance.random() < 0.005:
            raw = raw[:chance.randrange(len(raw))]
        if chance.random() < 0.02:
            sender = chance.choice((0, 3, 2 ** 32 - 1))
        return 3, [sender, self.time()], raw

    def segment(self):
        words, chance = self.words, self.chance
        window = self.pick((1024, 10), (0, 5), (1, 3), (chance.randrange(200), 4), (65535, 1))
        if words.phase in (1, 2) and chance.random() < 0.9:
            self.their_base = self.a_base()
            flags = self.pick((BEGIN, 5 if words.phase == 1 else 2), (BEGIN | ACKS, 1 if words.phase == 1 else 6))
            return self.their_base, words.base + self.pick((1, 20), (0, 1), (2, 1)), flags, window, [], b""
        flags = self.pick((ACKS, 60), (ACKS | END, 1.5), (0, 0.5), (ACKS | BEGIN, 0.5), (ACKS | RESET, 0.5),
                          (RESET, 0.3), (chance.randrange(16), 0.5))
        if words.has_come or words.closing:
            flags |= self.pick((0, 6), (END, 1))
        size = self.pick((0, 60), (chance.randrange(1, 30), 30), (chance.randrange(1, 1401), 3 * self.big))
        place = self.place_of_theirs(size)
        ranges = [self.told_range() for _ in range(self.pick((0, 6), (1, 4), (2, 1), (4, 0.5)))]
        return (words.their_base + place, words.base + self.acked_place(), flags, window, ranges,
                text(max(0, place), size) if chance.random() < 0.9 else bytes(size))

    def place_of_theirs(self, size):
        words, chance = self.words, self.chance
        near = words.wanted + chance.randrange(-20, 60)
        return self.pick((words.wanted, 60), (near, 15), (words.wanted - size, 3), (words.wanted - 1, 4),
                         (words.edge + chance.randrange(-3, 4), 3), (words.edge - size, 2),
                         (words.end if words.end else words.wanted, 2), (chance.randrange(MODULUS), 0.5),
                         (-1, 0.5))

    def acked_place(self):
        words, chance = self.words, self.chance
        inside = chance.randrange(words.first, words.top + 1)
        segment = min(words.top, words.first + SEGMENT)
        return self.pick((words.first, 30), (words.top, 15), (inside, 8), (segment, 15), (words.top + 1, 1),
                         (words.first - 1, 1), (0, 0.5), (chance.randrange(MODULUS), 0.5))

    def told_range(self):
        words, chance = self.words, self.chance
        start = words.first + chance.choice((SEGMENT, 2 * SEGMENT, chance.randrange(1, 40), chance.randrange(6000)))
        behind = start + chance.choice((SEGMENT, chance.randrange(1, 20), words.top - start, words.top - start + 1, 0, -3))
        return [words.base + start, words.base + behind]


def taken_apart(given):
    """The answers in a list of answers."""
    apart = []
    at = 0
    while at < len(given):
        apart.append(given[at + 1:at + 1 + given[at]])
        at += 1 + given[at]
    return apart


LISTS = [Mixed(seed) for seed in range(80)]


class LongMixedLists(unittest.TestCase):
    def test_answers_are_those_of_the_words(self):
        for seed, mixed in enumerate(LISTS):
            for at, (got, expected) in enumerate(zip(taken_apart(answers(mixed.calls)), mixed.expected, strict=True)):
                self.assertEqual(got, expected, (seed, at, mixed.each[at][:7]))

    def test_due_and_told_change_nothing(self):
        for seed, mixed in enumerate(LISTS[:40]):
            calls = []
            expected = []
            words = Words()
            for flat, answer in zip(mixed.each, mixed.expected):
                calls += [10, 11] + flat + [11, 10]
                expected += [words.call(10, ()), words.call(11, ()), answer]
                words = self.gone_on(words, flat)
                expected += [words.call(11, ()), words.call(10, ())]
            for at, (got, one) in enumerate(zip(taken_apart(answers(calls)), expected, strict=True)):
                self.assertEqual(got, one, (seed, at))

    def gone_on(self, words, flat):
        has_row = flat[0] in (3, 4)
        behind = 1 + (2 if flat[0] == 3 else 1) if has_row else len(flat)
        words.call(flat[0], flat[1:behind], flat[behind + 1:])
        return words

    def test_they_go_everywhere(self):
        """Every phase, every way to be over, every call and its refusals; and sides that begin again."""
        self.assertEqual(set().union(*[mixed.phases for mixed in LISTS]), set(range(7)))
        self.assertEqual(set().union(*[mixed.whys for mixed in LISTS]), set(range(5)))
        seen = {(flat[0], min(answer[0], 1)) for mixed in LISTS for flat, answer in zip(mixed.each, mixed.expected)}
        numbers = {1: {-1, -4, 0}, 2: {-1, -4, 0}, 3: {-1, -2, -3, -4, 0}, 4: {-1, -4, -6, 0, 1}, 5: {-1, -4, -6, 0, 1},
                   6: {-1, -4, -6, 0}, 7: {-1, -4, 0}, 8: {-1, 0}, 9: {-1, 0}, 10: {0, 1}, 11: {0}}
        self.assertEqual(seen, {(call, number) for call in numbers for number in numbers[call]})
        started = [[answer for flat, answer in zip(mixed.each, mixed.expected) if flat[0] < 3 and answer[0] == 0]
                   for mixed in LISTS]
        self.assertGreater(len([one for one in started if len(one) > 2]), len(LISTS) // 2)

    def test_nothing_is_done_before_it_is_due(self):
        """A tick right ahead of what's due tells nothing new; one at it does."""
        for mixed in LISTS[:30]:
            words = Words()
            calls = []
            for at, flat in enumerate(mixed.each[:150]):
                calls += flat
                words = self.gone_on(words, flat)
                due = words.tell_due()
                if at % 10 or not due[0] or not words.now < due[1] <= 2 ** 62:
                    continue
                before = taken_apart(answers(calls + [8, due[1] - 1, 11, 10]))
                self.assertEqual(before[-3], [0, 0])
                self.assertEqual(before[-2][:-1], [0] + words.tell())
                self.assertEqual(before[-1], [1, due[1], 0])
                behind = taken_apart(answers(calls + [8, due[1], 11, 10]))
                self.assertEqual(behind[-3][0], 0)
                self.assertNotEqual(behind[-3:], before[-3:])

    def test_what_is_handed_in_stays_and_nothing_is_kept(self):
        whole = [list(mixed.calls) for mixed in LISTS[:10]]
        first = [answers(calls) for calls in whole]
        self.assertEqual(whole, [mixed.calls for mixed in LISTS[:10]])
        self.assertEqual([answers(calls) for calls in reversed(whole)], first[::-1])

    def test_whole_numbers_alone_are_given(self):
        for mixed in LISTS[:10]:
            self.assertEqual({type(one) for one in answers(mixed.calls)}, {int})

    def test_most_calls(self):
        mixed = Mixed(1000, most_calls=100)
        rest = 3000 - len(mixed.each)
        calls = mixed.calls + ([11, 10, 8, mixed.words.now] * 1000)[:rest + rest // 3]
        expected = mixed.expected + [mixed.words.call(11, ()), mixed.words.call(10, ()), [0, 0]]
        got = taken_apart(answers(calls))
        self.assertEqual(len(got), 3000)
        self.assertEqual(got[:len(expected)], expected)


if __name__ == "__main__":
    unittest.main()
