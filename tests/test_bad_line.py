"""Two sides that talk through a line that loses, doubles, delays, damages and disorders what's sent."""

import random
import unittest

from streamside.side import answer_of, answers, laid_out
from streamside.state import Side

ADDRESSES = (10, 20)
PORTS = (100, 200)
STEP = 20


class End:
    """One of the two sides, with all that was asked of it and answered."""

    def __init__(self):
        self.side = Side()
        self.calls = []
        self.told = []
        self.got = []
        self.left = []
        self.closed = False
        self.end_seen = False

    def ask(self, call, numbers, row=None):
        self.calls += [call] + list(numbers) + ([] if row is None else [len(row)] + list(row))
        self.side.out = []
        answer = answer_of(self.side, call, list(numbers), list(row or []))
        sent = list(self.side.out)
        whole = answer + laid_out(sent)
        self.told += [len(whole)] + whole
        return answer, sent


class BadLine:
    """What lies between the two, and what each is to write."""

    def __init__(self, seed, loss, double, delay, damage, texts, bases, most_read=100000):
        self.chance = random.Random(seed)
        self.loss = loss
        self.double = double
        self.delay = delay
        self.damage = damage
        self.now = 0
        self.way = []
        self.ends = (End(), End())
        self.bases = bases
        self.most_read = most_read
        for end, whole in zip(self.ends, texts):
            end.left = list(whole)
            end.whole = list(whole)

    def begin(self, both=False):
        self.ask(0, 1, (ADDRESSES[0], PORTS[0], ADDRESSES[1], PORTS[1], self.bases[0], 0))
        if both:
            self.ask(1, 1, (ADDRESSES[1], PORTS[1], ADDRESSES[0], PORTS[0], self.bases[1], 0))
        else:
            self.ask(1, 2, (ADDRESSES[1], PORTS[1], self.bases[1], 0))

    def ask(self, who, call, numbers, row=None):
        answer, sent = self.ends[who].ask(call, numbers, row)
        for to, raw in sent:
            assert to == ADDRESSES[1 - who]
            self.put(who, raw)
        return answer

    def put(self, who, raw):
        copies = 2 if self.chance.random() < self.double else 1
        for _ in range(copies):
            if self.chance.random() < self.loss:
                continue
            raw = list(raw)
            if self.chance.random() < self.damage:
                raw[self.chance.randrange(len(raw))] ^= 1 << self.chance.randrange(8)
            self.way.append((self.now + 1 + self.chance.randrange(self.delay), self.chance.random(), 1 - who, raw))

    def deliver(self):
        ripe = sorted(one for one in self.way if one[0] <= self.now)
        self.way = [one for one in self.way if one[0] > self.now]
        for _, _, who, raw in ripe:
            self.ask(who, 3, (ADDRESSES[1 - who], self.now), raw)

    def work(self, who):
        """A side writes what it can, closes when all is written, and reads what there is."""
        end = self.ends[who]
        if end.left and end.side.phase > 1:
            taken = self.ask(who, 4, (self.now,), end.left[:3000])[0]
            end.left = end.left[max(0, taken):]
        if not end.left and not end.closed and end.side.phase > 1:
            end.closed = self.ask(who, 6, (self.now,))[0] == 0
        answer = self.ask(who, 5, (self.now, self.most_read))
        if answer[0] >= 0:
            end.got += answer[1:]
            assert answer[0] == len(answer) - 1
        elif answer[0] == -6:
            end.end_seen = True

    def tick(self, most):
        """Time alone, and what comes."""
        while self.now < most:
            self.now += STEP
            self.deliver()
            for who in (0, 1):
                self.ask(who, 8, (self.now,))

    def phases(self):
        return [(end.side.phase, end.side.why) for end in self.ends]

    def run(self, most):
        while self.now < most:
            self.now += STEP
            self.deliver()
            for who in (0, 1):
                self.work(who)
            if all(end.side.phase == 6 for end in self.ends):
                return

    def is_sound(self):
        """Each has read a beginning of what the other wrote; and all of it, where an end is told."""
        for who in (0, 1):
            end, other = self.ends[who], self.ends[1 - who]
            if end.got != other.whole[:len(end.got)]:
                return False
            if end.side.has_ended and end.got + end.side.unread != other.whole:
                return False
        return True


def texts_of(seed, first, second):
    chance = random.Random(seed)
    return [bytes(chance.randrange(256) for _ in range(size)) for size in (first, second)]


class TwoSides(unittest.TestCase):
    def talk(self, seed, loss=0.0, double=0.0, delay=30, damage=0.0, sizes=(9000, 4000), bases=(7, 9), both=False,
             most_read=100000):
        line = BadLine(seed, loss, double, delay, damage, texts_of(seed, *sizes), bases, most_read)
        line.begin(both)
        line.run(3000000)
        self.assertTrue(line.is_sound())
        for end in line.ends:
            self.assertEqual(answers(end.calls), end.told)
        return line

    def assert_all_read(self, line):
        for who in (0, 1):
            self.assertEqual(line.ends[who].got, line.ends[1 - who].whole)
            self.assertTrue(line.ends[who].end_seen)
            self.assertEqual((line.ends[who].side.phase, line.ends[who].side.why), (6, 1))

    def test_a_good_line(self):
        self.assert_all_read(self.talk(1))

    def test_nothing_written(self):
        self.assert_all_read(self.talk(2, sizes=(0, 0)))

    def test_one_writes(self):
        self.assert_all_read(self.talk(3, sizes=(20000, 0)))
        self.assert_all_read(self.talk(4, sizes=(0, 20000)))

    def test_losses(self):
        for seed in range(10, 16):
            self.assert_all_read(self.talk(seed, loss=0.1))

    def test_doubles(self):
        for seed in range(20, 23):
            self.assert_all_read(self.talk(seed, double=0.5))

    def test_delay_and_disorder(self):
        for seed in range(30, 33):
            self.assert_all_read(self.talk(seed, delay=400))

    def test_damage(self):
        for seed in range(40, 43):
            self.assert_all_read(self.talk(seed, damage=0.1))

    def test_all_at_once(self):
        for seed in range(50, 56):
            line = self.talk(seed, loss=0.1, double=0.2, delay=200, damage=0.05)
            self.assert_all_read(line)

    def test_both_begin(self):
        for seed in range(60, 64):
            self.assert_all_read(self.talk(seed, loss=0.1, double=0.1, both=True))

    def test_numbers_go_round(self):
        for seed in range(70, 73):
            bases = (2 ** 32 - 3000, 2 ** 32 - 1)
            self.assert_all_read(self.talk(seed, loss=0.1, double=0.1, delay=100, bases=bases))

    def test_slow_reader(self):
        line = self.talk(80, loss=0.05, sizes=(90000, 100), most_read=900)
        self.assert_all_read(line)

    def test_a_line_that_loses_nearly_all(self):
        for seed in range(90, 94):
            line = self.talk(seed, loss=0.7, double=0.1, delay=300, damage=0.1)
            for end in line.ends:
                self.assertIn(end.side.why, (0, 1, 3))

    def test_a_line_that_loses_all(self):
        line = self.talk(95, loss=1.0)
        self.assertEqual([line.ends[0].side.phase, line.ends[0].side.why], [6, 3])
        self.assertEqual(line.ends[1].side.phase, 1)

    def kept_up(self, times, loss):
        line = BadLine(96, loss, 0.1, 200, 0.0, texts_of(96, 0, 0), (7, 9))
        line.begin()
        line.tick(30000)
        self.assertEqual(line.phases(), [(4, 0), (4, 0)])
        for who in (0, 1):
            line.ask(who, 9, (line.now, times[who]))
        return line

    def test_kept_up(self):
        """Askings are answered, and so nobody is over while somebody's there."""
        line = self.kept_up((500, 3000), 0.1)
        line.tick(400000)
        self.assertEqual(line.phases(), [(4, 0), (4, 0)])
        line.loss = 1.0
        line.tick(520000)
        self.assertEqual(line.phases(), [(6, 3), (6, 3)])

    def test_one_alone_is_kept_up(self):
        line = self.kept_up((5000, 0), 0.0)
        line.tick(200000)
        line.loss = 1.0
        line.tick(400000)
        self.assertEqual(line.phases(), [(6, 3), (4, 0)])

    def test_reset_ends_both(self):
        line = self.kept_up((0, 0), 0.0)
        self.assertEqual(line.ask(0, 7, (line.now,)), [0])
        line.tick(line.now + 1000)
        self.assertEqual(line.phases(), [(6, 4), (6, 2)])

    def test_reset_that_is_lost(self):
        """The other is still there, asks, and hears nobody."""
        line = self.kept_up((0, 5000), 0.0)
        line.loss = 1.0
        line.ask(0, 7, (line.now,))
        line.loss = 0.0
        line.tick(line.now + 56000)
        self.assertEqual(line.phases(), [(6, 4), (6, 3)])

    def test_begin_again_behind_a_reset(self):
        line = self.kept_up((0, 0), 0.0)
        line.ask(0, 7, (line.now,))
        line.tick(line.now + 1000)
        line.bases = (1000, 2 ** 32 - 5)
        for end, whole in zip(line.ends, texts_of(97, 5000, 6000)):
            end.left, end.whole = list(whole), list(whole)
        line.loss = 0.05
        line.begin()
        line.run(3000000)
        self.assertTrue(line.is_sound())
        self.assert_all_read(line)
        for end in line.ends:
            self.assertEqual(answers(end.calls), end.told)


if __name__ == "__main__":
    unittest.main()
