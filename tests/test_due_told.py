"""Promises 10 and 11 (due, told)."""

import unittest

from streamside.side import answers
from tests.helper import (ACKS, BEGIN, END, FULL, RESET, Line, SideTest, Told, answered, from_other, lines_by_phase, opened,
                          text)

EDGE = 65537
AT_FIRST = Told(0, 0, 0, 0, 0, 0, 0, 0, 5600, 1048576, 1000, 0, 0, 0, 0, 0)
OPENED = Told(4, 0, 0, 0, 1, 1, 1, EDGE, 5600, 1048576, 300, 1, 0, EDGE, 0, 0)


class Due(SideTest):
    """Promise 10."""

    def test_layout(self):
        self.assertEqual(answers([10]), [2, 0, 0])
        self.assertEqual(answers([1, 1, 1, 2, 2, 100, 5, 10])[25:], [3, 1, 1005, 0])

    def test_every_phase(self):
        expected = {0: None, 1: None, 2: 1000, 3: 1000, 4: None, 5: 60120, 6: None}
        self.assertEqual({phase: line.due() for phase, line in lines_by_phase().items()}, expected)

    def test_begin_said_again(self):
        line = Line()
        line.begin()
        for now in (1000, 3000, 7000, 15000, 31000, 63000):
            self.assertEqual(line.due(), now)
            line.tick(now)
        self.assertIsNone(line.due())

    def test_lingering(self):
        line = lines_by_phase()[5]
        line.tick(30000)
        self.assertEqual(line.due(), 60120)
        # What doesn't fit makes it linger anew.
        line.hear(40000, 1, 2, ACKS | END)
        self.assertEqual(line.due(), 100000)
        line.tick(100000)
        self.assertIsNone(line.due())

    def test_ack(self):
        line = opened()
        line.hear(110, 1, 1, data=b"abc")
        self.assertEqual(line.due(), 150)
        line.tick(150)
        self.assertIsNone(line.due())

    def test_ack_that_was_said_at_once(self):
        line = opened()
        line.hear(110, 1, 1, data=b"abc")
        line.hear(115, 4, 1, data=b"abc")
        self.assertIsNone(line.due())

    def test_ack_that_went_with_bytes(self):
        line = opened()
        line.hear(110, 1, 1, data=b"abc")
        line.write(120, b"x")
        self.assertEqual(line.due(), 420)

    def test_what_is_due(self):
        line = opened()
        line.write(110, b"abc")
        self.assertEqual(line.due(), 410)
        line.tick(410)
        self.assertEqual(line.due(), 1010)
        line.hear(500, 1, 4)
        self.assertIsNone(line.due())

    def test_bytes_that_wait_for_room(self):
        line = opened(window=0)
        line.write(110, b"abc")
        self.assertEqual(line.due(), 410)

    def test_asking(self):
        line = opened()
        line.keep(110, 5000)
        self.assertEqual(line.due(), 5110)
        line.tick(5110)
        self.assertEqual(line.due(), 15110)

    def test_no_asking_while_something_is_on_its_way(self):
        line = opened()
        line.keep(110, 50)
        line.write(110, b"abc")
        self.assertEqual(line.due(), 410)

    def test_earliest_of_ack_and_what_is_due(self):
        line = opened()
        line.write(110, b"abc")
        line.hear(120, 1, 1, data=b"x")
        self.assertEqual(line.due(), 160)
        line = opened()
        line.write(110, b"abc")
        line.hear(390, 1, 1, data=b"x")
        self.assertEqual(line.due(), 410)
        line = opened()
        line.write(110, b"abc")
        line.hear(370, 1, 1, data=b"x")
        self.assertEqual(line.due(), 410)

    def test_earliest_of_ack_and_asking(self):
        for kept, due in ((39, 149), (40, 150), (41, 150)):
            line = opened()
            line.keep(100, kept)
            line.hear(110, 1, 1, data=b"x")
            self.assertEqual(line.due(), due)

    def test_earliest_of_what_is_due_and_asking(self):
        for kept, due in ((299, 399), (300, 400), (301, 400)):
            line = opened(window=0)
            line.write(100, b"abc")
            line.keep(100, kept)
            self.assertEqual(line.due(), due)

    def test_earliest_of_three(self):
        for kept, now, due in ((25, 370, 395), (100, 355, 395), (100, 380, 400)):
            line = opened(window=0)
            line.write(100, b"abc")
            line.keep(100, kept)
            line.hear(now, 1, 1, data=b"x")
            self.assertEqual(line.due(), due)

    def test_time_that_has_passed(self):
        line = opened()
        line.keep(100, 5)
        line.tick(10 ** 6)
        self.assertEqual(line.due(), 10105)

    def test_beyond_the_last_time(self):
        line = Line()
        line.begin(now=2 ** 62)
        self.assertEqual(line.due(), 2 ** 62 + 1000)

    def test_over_in_each_way(self):
        for line in over_in_each_way().values():
            self.assertIsNone(line.due())


def tried_in_vain(line, times):
    for now in times:
        line.tick(now)
    return line


def over_in_each_way():
    """A line for each way to be over."""
    lingered = lines_by_phase()[5]
    lingered.tick(60120)
    ended = opened()
    ended.hear(110, 1, 1, ACKS | END)
    ended.close(120)
    ended.hear(130, 2, 2)
    begun = lines_by_phase()[2]
    begun.hear(110, 0, 1, RESET | ACKS)
    kept = opened()
    kept.keep(100, 1)
    written = opened()
    written.write(100, b"abc")
    ways = {
        "lingered": lingered, "ended": ended, "begin reset by other": begun, "reset by other": lines_by_phase()[6],
        "begin in vain": tried_in_vain(lines_by_phase()[2], (1000, 3000, 7000, 15000, 31000, 63000)),
        "answer in vain": tried_in_vain(answered(), (1000, 3000, 7000, 15000, 31000, 63000)),
        "bytes in vain": tried_in_vain(written, (400, 1000, 2200, 4600, 9400, 19000, 38200, 76600, 136600)),
        "askings in vain": tried_in_vain(kept, (101, 10101, 20101, 30101, 40101, 50101)),
    }
    for phase in (1, 2, 3, 4):
        ways[f"reset in {phase}"] = lines_by_phase()[phase]
        ways[f"reset in {phase}"].reset(200)
    return ways


class ToldTest(SideTest):
    """Promise 11."""

    def test_layout(self):
        self.assertEqual(answers([11]), [18, 0] + list(AT_FIRST) + [0])

    def test_every_phase(self):
        expected = {
            0: AT_FIRST,
            1: AT_FIRST._replace(phase=1),
            2: AT_FIRST._replace(phase=2, next=1, top=1),
            3: AT_FIRST._replace(phase=3, next=1, top=1, room=EDGE, wanted=1, edge=EDGE),
            4: OPENED,
            # Measured again: 100 and then 10.
            5: OPENED._replace(phase=5, first=2, next=2, top=2, wide=5601, wait=88 + 240, wanted=2, ended=1),
            6: OPENED._replace(phase=6, why=2),
        }
        self.assertEqual({phase: line.told() for phase, line in lines_by_phase().items()}, expected)

    def test_over_in_each_way(self):
        whys = {"lingered": 1, "ended": 1, "begin reset by other": 2, "reset by other": 2, "begin in vain": 3,
                "answer in vain": 3, "bytes in vain": 3, "askings in vain": 3, "reset in 1": 4, "reset in 2": 4,
                "reset in 3": 4, "reset in 4": 4}
        ways = over_in_each_way()
        self.assertEqual({way: (line.told().phase, line.told().why) for way, line in ways.items()},
                         {way: (6, why) for way, why in whys.items()})

    def test_numbers_stay_when_it_is_over(self):
        ways = over_in_each_way()
        self.assertEqual(ways["lingered"].told(), lines_by_phase()[5].told()._replace(phase=6, why=1))
        self.assertEqual(ways["begin in vain"].told(), AT_FIRST._replace(phase=6, why=3, next=1, top=1, wait=32000))
        expected = OPENED._replace(phase=6, why=3, written=3, unacked=3, next=4, top=4, wide=1400, slow=2800, wait=60000)
        self.assertEqual(ways["bytes in vain"].told(), expected)
        self.assertEqual(ways["askings in vain"].told(), OPENED._replace(phase=6, why=3))
        self.assertEqual(ways["reset in 1"].told(), AT_FIRST._replace(phase=6, why=4))
        self.assertEqual(ways["reset in 4"].told(), OPENED._replace(phase=6, why=4))

    def test_new_side_after_each_way(self):
        for line in over_in_each_way().values():
            self.assertEqual(line.begin(now=0).number, 0)
            self.assertEqual(line.told(), AT_FIRST._replace(phase=2, next=1, top=1))
            line.reset(0)
            line.wait(now=0)
            self.assertEqual(line.told(), AT_FIRST._replace(phase=1))

    def test_bytes_written_and_sent(self):
        line = opened()
        line.write(110, text(1, 7000))
        sent = OPENED._replace(written=7000, unacked=7000, next=5601, top=5601)
        self.assertEqual(line.told(), sent)
        line.hear(210, 1, 1401)
        # 100 measured again: mean 100, off 150 (kept). 1400 wider; three segments and two more are on their way.
        sent = sent._replace(unacked=5600, first=1401, next=7001, top=7001, wide=7000, wait=250)
        self.assertEqual(line.told(), sent)
        line.write(220, text(7001, 10))
        self.assertEqual(line.told(), sent._replace(written=7010, unacked=5610))

    def test_bytes_written_before_it_is_open(self):
        line = lines_by_phase()[2]
        line.write(10, b"abc")
        self.assertEqual(line.told(), AT_FIRST._replace(phase=2, next=1, top=1, written=3, unacked=3))

    def test_end_is_no_byte(self):
        line = opened()
        line.write(110, b"abc")
        line.close(120)
        self.assertEqual(line.told(), OPENED._replace(written=3, unacked=3, next=5, top=5))
        line.hear(220, 1, 4)
        told = line.told()
        self.assertEqual((told.written, told.unacked, told.first, told.next, told.top), (3, 0, 4, 5, 5))
        line.hear(230, 1, 5)
        told = line.told()
        self.assertEqual((told.phase, told.written, told.unacked, told.first, told.top), (4, 3, 0, 5, 5))

    def test_room(self):
        line = opened(window=2)
        self.assertEqual(line.told().room, 129)
        line.hear(110, 1, 1, window=1)
        self.assertEqual(line.told().room, 129)
        line.hear(110, 1, 1, window=3)
        self.assertEqual(line.told().room, 193)
        line.write(120, text(1, 500))
        self.assertEqual((line.told().next, line.told().top), (193, 193))
        line.hear(130, 1, 101, window=5)
        self.assertEqual(line.told().room, 101 + 320)

    def test_mending(self):
        line = opened()
        line.write(110, text(1, 5600))
        for ranges in ([(1401, 2801)], [(1401, 4201)], [(1401, 5601)]):
            line.hear(210, 1, 1, ranges=ranges)
        told = line.told()
        self.assertEqual((told.wide, told.slow, told.first, told.next, told.top), (2800 + 4200, 2800, 1, 5601, 5601))
        line.hear(220, 1, 5601)
        told = line.told()
        self.assertEqual((told.wide, told.slow, told.first, told.unacked), (2800, 2800, 5601, 0))

    def test_start_over(self):
        line = opened()
        line.write(110, text(1, 5600))
        line.tick(410)
        expected = OPENED._replace(written=5600, unacked=5600, next=1401, top=5601, wide=1400, slow=2800, wait=600)
        self.assertEqual(line.told(), expected)

    def test_what_came(self):
        line = opened()
        line.hear(110, 1, 1, data=b"abc")
        self.assertEqual(line.told(), OPENED._replace(wanted=4, unread=3))
        line.hear(120, 10, 1, data=b"de")
        line.hear(120, 20, 1, data=b"f")
        line.hear(120, 12, 1, data=b"g")
        self.assertEqual(line.told(), OPENED._replace(wanted=4, unread=3, pieces=2))
        line.read(130, 2)
        self.assertEqual(line.told(), OPENED._replace(wanted=4, unread=1, pieces=2))
        line.hear(140, 4, 1, data=b"hijklm")
        self.assertEqual(line.told(), OPENED._replace(wanted=13, unread=10, pieces=1))

    def test_edge(self):
        line = opened()
        line.hear(110, 1, 1, data=text(1, 1400))
        self.assertEqual(line.told().edge, EDGE)
        line.read(120, 1399)
        # 64 times, and cut: the one byte left takes 64 away.
        self.assertEqual(line.told().edge, EDGE)
        line.read(130, 1)
        self.assertEqual(line.told().edge, EDGE + 1400)

    def test_end_that_came(self):
        line = opened()
        line.hear(110, 4, 1, ACKS | END)
        self.assertEqual(line.told(), OPENED)
        line.hear(110, 1, 1, data=b"abc")
        self.assertEqual(line.told(), OPENED._replace(wanted=5, unread=3, ended=1))
        line.read(120)
        self.assertEqual(line.told(), OPENED._replace(wanted=5, ended=1))

    def test_answered_is_one_wider_once_open(self):
        line = answered()
        line.hear(100, 1, 1)
        self.assertEqual(line.told(), OPENED._replace(wide=5601))


class BothChangeNothing(SideTest):
    def busy(self):
        """A line whose answers would show if something were changed, or time went on, or segments were left over."""
        line = Line()
        line.begin()
        line.tick(1000)
        line.hear(1100, 0, 1, BEGIN | ACKS, FULL)
        line.keep(1100, 700)
        line.write(1110, text(1, 9000))
        for ranges in ([(1401, 2801)], [(1401, 4201)], [(1401, 4201)]):
            line.hear(1200, 1, 1, ranges=ranges)
        line.hear(1210, 1, 1401, data=b"abc")
        line.hear(1220, 9, 1401, ACKS | END, data=b"abc")
        line.read(1230, 2)
        line.tick(9000)
        line.hear(9100, 4, 9001, data=b"d")
        line.tick(9800)
        line.close(9900)
        line.hear(9910, 5, 9002, data=b"efgh")
        line.tick(9950)
        return line

    def calls_of(self, calls):
        apart = []
        at = 0
        while at < len(calls):
            behind = at + 1 + (6, 4, 2, 1, 2, 1, 1, 1, 2, 0, 0)[calls[at] - 1]
            if calls[at] in (3, 4):
                behind += 1 + calls[behind]
            apart.append(calls[at:behind])
            at = behind
        return apart

    def answers_of(self, calls):
        given = answers(calls)
        apart = []
        while given:
            apart.append(given[1:1 + given[0]])
            given = given[1 + given[0]:]
        return apart

    def test_others_answer_as_without_them(self):
        line = self.busy()
        plain = self.answers_of(line.calls)
        for extra in ([10], [11], [10, 11, 10]):
            calls = []
            for call in self.calls_of(line.calls):
                calls += extra + call
            got = self.answers_of(calls)
            step = len(extra) + 1
            self.assertEqual(got[step - 1::step], plain)

    def test_they_answer_alike_again(self):
        line = self.busy()
        for at in range(1, len(self.calls_of(line.calls)) + 1):
            calls = sum(self.calls_of(line.calls)[:at], [])
            got = self.answers_of(calls + [10, 11, 11, 10])[-4:]
            self.assertEqual((got[0], got[1]), (got[3], got[2]))

    def test_no_segment(self):
        line = self.busy()
        for at in range(1, len(self.calls_of(line.calls)) + 1):
            calls = sum(self.calls_of(line.calls)[:at], [])
            due, told = self.answers_of(calls + [10, 11])[-2:]
            self.assertEqual((len(due), due[-1]), (2 + due[0], 0))
            self.assertEqual((len(told), told[0], told[-1]), (18, 0, 0))

    def test_behind_a_refusal(self):
        line = opened()
        line.write(110, b"abc")
        # Time went on with the refused call, not with due.
        calls = line.calls + [3, 20, 410, 1, 7]
        told = OPENED._replace(written=3, unacked=3, next=4, top=4, wide=1400, slow=2800, wait=600)
        self.assertEqual(self.answers_of(calls + [10, 11])[-2:], [[1, 1010, 0], [0] + list(told) + [0]])
        calls = line.calls + [8, 2 ** 62 + 1]
        self.assertEqual(self.answers_of(calls + [10])[-1], [1, 410, 0])

    def test_told_what_is_late_is_not_done(self):
        line = opened()
        line.came(20, 200, from_other(1, 1, ACKS, data=b"x"))
        before = (line.due(), line.told())
        self.assertEqual((line.due(), line.told()), before)
        self.assert_ack(line.tick(240), 1, 2, 1023)


if __name__ == "__main__":
    unittest.main()
