"""Promises 1 and 2 (open, wait), and what comes before a stream is open."""

import unittest

from tests.helper import (ACKS, BASE, BEGIN, END, FULL, ME, MINE, OTHER_BASE, RESET, THEIRS, THEM, Line, Seen, SideTest,
                          answered, heard, lines_by_phase, opened, packed, text)

PORTS = (THEIRS, MINE)
TOP_TIME = 2 ** 62
WRONG_ADDRESSES = (0, 2 ** 32 - 1, 2 ** 32, 2 ** 64 - 1)
WRONG_PORTS = (0, 65536, 2 ** 64 - 1)
WRONG_BASES = (2 ** 32, 2 ** 64 - 1)
WRONG_TIMES = (TOP_TIME + 1, 2 ** 64 - 1)


class Begin(SideTest):
    """Promise 1: open."""

    def test_begin_is_said(self):
        answer = Line().begin()
        self.assertEqual(answer.number, 0)
        self.assertEqual(answer.sent, [Seen(THEM, (MINE, THEIRS), BASE, 0, BEGIN, 1024, [], b"")])

    def test_wrong_arguments(self):
        good = (ME, MINE, THEM, THEIRS, BASE, 0)
        wrong = (WRONG_ADDRESSES, WRONG_PORTS, WRONG_ADDRESSES, WRONG_PORTS, WRONG_BASES, WRONG_TIMES)
        for at, values in enumerate(wrong):
            for value in values:
                numbers = list(good)
                numbers[at] = value
                self.assert_nothing(Line().add(1, numbers), -1)

    def test_edges_of_arguments(self):
        high = 2 ** 32 - 2
        for numbers in ((1, 1, 1, 1, 0, 0), (high, 65535, high, 65535, 2 ** 32 - 1, TOP_TIME)):
            answer = Line(numbers[0]).add(1, numbers)
            self.assertEqual((answer.number, len(answer.sent)), (0, 1))

    def test_phases_that_refuse(self):
        for phase, line in lines_by_phase().items():
            answer = line.begin(now=1000)
            self.assertEqual(answer.number, 0 if phase in (0, 6) else -4)
            self.assertEqual(len(answer.sent), 1 if phase in (0, 6) else 0)

    def test_wrong_argument_is_refused_ahead_of_phase(self):
        line = Line()
        line.begin()
        self.assert_nothing(line.begin(mine=0), -1)
        self.assert_nothing(line.begin(), -4)

    def test_refused_begin_lets_no_time_go_on(self):
        for phase, line in lines_by_phase().items():
            if phase in (0, 6):
                continue
            self.assert_nothing(line.begin(now=10 ** 9), -4)
            self.assert_nothing(line.wait(now=10 ** 9), -4)
        line = Line()
        line.begin()
        line.begin(now=10 ** 9)
        self.assert_due(line, 1000)

    def test_wrong_argument_lets_no_time_go_on(self):
        line = Line()
        line.begin()
        self.assert_nothing(line.came(0, 10 ** 9, []), -1)
        self.assert_nothing(line.read(TOP_TIME + 1), -1)
        self.assert_due(line, 1000)

    def test_time_stays_if_it_is_later(self):
        line = Line()
        line.close(7000)
        line.begin(now=100)
        self.assert_due(line, 8000)
        line = Line()
        line.begin(now=100)
        self.assert_due(line, 1100)

    def test_begin_is_said_again_five_times(self):
        line = Line()
        line.begin(now=50)
        time = 50
        for wait in (1000, 2000, 4000, 8000, 16000):
            time += wait
            self.assert_due(line, time)
            self.assert_sent(line.pass_on(time), [(0, BEGIN, b"")])
        self.assert_nothing(line.peek(time + 31999))
        self.assert_nothing(line.peek(time + 32000), -6)
        self.assert_nothing(line.write(time + 32000, b"a"), -6)
        self.assert_nothing(line.came(THEM, time + 32000, []), -4)

    def test_wait_counts_from_when_time_goes_on(self):
        line = Line()
        line.begin()
        self.assert_sent(line.pass_on(1700), [(0, BEGIN, b"")])
        self.assert_due(line, 3700)

    def test_new_side_after_the_old_is_over(self):
        line = opened()
        line.write(110, text(1, 100))
        line.hear(120, 1, 101, ACKS | END, 5, data=b"left")
        line.hear(130, 6, 101, RESET)
        self.assert_nothing(line.peek(140))
        self.assert_sent(line.begin(now=140), [(0, BEGIN, b"")])
        self.assertEqual(line.read(150).told, [])
        self.assert_due(line, 1140)
        line.hear(200, 0, 1, BEGIN | ACKS, FULL)
        self.assert_sent(line.write(210, b"new"), [(1, ACKS, b"new")], 3)
        self.assert_due(line, 410)

    def test_new_side_forgets_tries_and_wait(self):
        line = Line()
        line.begin()
        for time in (1000, 3000, 7000, 15000, 31000, 63000):
            line.pass_on(time)
        self.assert_sent(line.begin(now=70000), [(0, BEGIN, b"")])
        for time in (71000, 73000, 77000, 85000, 101000):
            self.assert_sent(line.pass_on(time), [(0, BEGIN, b"")])

    def test_bytes_and_end_written_before_it_is_open(self):
        line = Line()
        line.begin()
        self.assert_nothing(line.write(10, text(1, 1500)), 1500)
        self.assert_nothing(line.close(20))
        self.assert_nothing(line.write(20, b"x"), -6)
        answer = line.hear(100, 0, 1, BEGIN | ACKS, FULL)
        self.assert_places(answer, [(1, 1), (1, 1401), (1401, 1502)])


class Wait(SideTest):
    """Promise 2: wait."""

    def test_nothing_is_said(self):
        self.assert_nothing(Line().wait())

    def test_wrong_arguments(self):
        good = (ME, MINE, BASE, 0)
        for at, values in enumerate((WRONG_ADDRESSES, WRONG_PORTS, WRONG_BASES, WRONG_TIMES)):
            for value in values:
                numbers = list(good)
                numbers[at] = value
                self.assert_nothing(Line().add(2, numbers), -1)

    def test_edges_of_arguments(self):
        self.assert_nothing(Line().wait(1, 1, 0, 0))
        self.assert_nothing(Line().wait(2 ** 32 - 2, 65535, 2 ** 32 - 1, TOP_TIME))

    def test_phases_that_refuse(self):
        for phase, line in lines_by_phase().items():
            self.assert_nothing(line.wait(now=1000), 0 if phase in (0, 6) else -4)

    def test_wrong_argument_is_refused_ahead_of_phase(self):
        line = Line()
        line.wait()
        self.assert_nothing(line.wait(base=2 ** 32), -1)
        self.assert_nothing(line.wait(), -4)

    def test_time_stays_if_it_is_later(self):
        line = Line()
        line.read(5000)
        line.wait(now=10)
        line.hear(20, 0, None, BEGIN, FULL)
        self.assert_due(line, 6000)
        line = Line()
        line.wait(now=700)
        line.hear(20, 0, None, BEGIN, FULL)
        self.assert_due(line, 1700)

    def test_nothing_is_due_while_it_waits(self):
        line = Line()
        line.wait()
        self.assert_nothing(line.read(10 ** 9), -4)
        self.assert_sent(line.hear(10 ** 9, 0, None, BEGIN, FULL), [(0, BEGIN | ACKS, b"")])


class ComesToWaiting(SideTest):
    """What comes in phase 1."""

    def waiting(self):
        line = Line()
        line.wait()
        return line

    def test_begin_is_answered(self):
        answer = self.waiting().hear(30, 0, None, BEGIN, FULL)
        expected = Seen(THEM, (MINE, THEIRS), BASE, OTHER_BASE + 1, BEGIN | ACKS, 1024, [], b"")
        self.assertEqual((answer.number, answer.sent), (0, [expected]))

    def test_any_sender_and_from_port(self):
        for sender, port in ((1, 1), (2 ** 32 - 2, 65535), (THEM, 0)):
            answer = self.waiting().came(sender, 0, packed(sender, ME, (port, MINE), 5, 0, BEGIN))
            self.assertEqual((answer.sent[0].to, answer.sent[0].ports), (sender, (MINE, port)))

    def test_another_to_port(self):
        self.assert_nothing(self.waiting().came(THEM, 0, packed(THEM, ME, (THEIRS, MINE + 1), 5, 0, BEGIN)), -2)

    def test_reset_is_nothing(self):
        for flags in (RESET, RESET | ACKS, RESET | BEGIN, RESET | BEGIN | ACKS | END):
            line = self.waiting()
            self.assert_nothing(line.hear(0, 0, 1, flags))
            self.assertEqual(line.write(0, b"a").number, -4)

    def test_what_acks_is_refused(self):
        for flags in (ACKS, BEGIN | ACKS, END | ACKS):
            line = self.waiting()
            answer = line.came(THEM, 0, packed(THEM, ME, PORTS, 7, 12345, flags, data=b"abc"))
            self.assert_reset(answer, 12345)
            self.assertEqual(line.write(0, b"a").number, -4)

    def test_refusal_goes_to_sender_and_port(self):
        answer = self.waiting().came(77, 0, packed(77, ME, (5, MINE), 7, 12345, ACKS))
        self.assert_reset(answer, 12345, 77, (MINE, 5))

    def test_what_neither_begins_nor_acks_is_nothing(self):
        for flags in (0, END):
            line = self.waiting()
            self.assert_nothing(line.hear(0, 0, None, flags, data=b"abc"))
            self.assertEqual(line.write(0, b"a").number, -4)

    def test_data_and_end_of_a_begin_are_not_looked_at(self):
        line = self.waiting()
        answer = line.hear(0, 0, None, BEGIN | END, FULL, data=b"abc")
        self.assertEqual(heard(answer.sent[0]).acked, 1)
        self.assertEqual((line.read(0).number, line.read(0).told), (0, []))

    def test_room_is_64_times_the_window(self):
        line = answered(window=2)
        line.write(0, text(1, 500))
        answer = line.hear(10, 1, 1, window=0)
        self.assert_places(answer, [(1, 129)])

    def test_answer_is_due_after_wait(self):
        line = answered(now=500)
        self.assert_due(line, 1500)
        self.assert_sent(line.pass_on(1500), [(0, BEGIN | ACKS, b"")])
        self.assert_due(line, 3500)

    def test_answer_is_said_again_five_times(self):
        line = answered()
        for time in (1000, 3000, 7000, 15000, 31000):
            self.assert_sent(line.pass_on(time), [(0, BEGIN | ACKS, b"")])
        self.assert_nothing(line.peek(62999))
        self.assert_nothing(line.pass_on(63000), -6)

    def test_answer_is_timed(self):
        line = answered()
        line.hear(400, 1, 1, window=FULL)
        line.write(400, b"a")
        # 400 and 800 together.
        self.assert_due(line, 1600)

    def test_answer_said_again_is_not_timed(self):
        line = answered()
        line.pass_on(1000)
        line.hear(1400, 1, 1, window=FULL)
        line.write(1400, b"a")
        self.assert_due(line, 3400)


class ComesToBegun(SideTest):
    """What comes in phase 2."""

    def begun(self):
        line = Line()
        line.begin()
        return line

    def test_begin_that_acks(self):
        line = self.begun()
        self.assert_ack(line.hear(100, 0, 1, BEGIN | ACKS, FULL), 1, 1)
        self.assert_nothing(line.peek(10 ** 6))
        self.assert_sent(line.write(100, b"hello"), [(1, ACKS, b"hello")], 5)

    def test_begin_that_acks_is_measured(self):
        line = self.begun()
        line.hear(100, 0, 1, BEGIN | ACKS, FULL)
        line.write(100, b"a")
        self.assert_due(line, 400)

    def test_begin_said_again_is_not_measured(self):
        line = self.begun()
        line.pass_on(1000)
        line.hear(1100, 0, 1, BEGIN | ACKS, FULL)
        line.write(1100, b"a")
        self.assert_due(line, 3100)

    def test_tries_are_forgotten_once_open(self):
        line = self.begun()
        for time in (1000, 3000, 7000, 15000, 31000):
            line.pass_on(time)
        line.hear(31100, 0, 1, BEGIN | ACKS, FULL)
        line.write(31100, b"a")
        time = 31100
        for wait in (32000,) + (60000,) * 7:
            time += wait
            self.assert_sent(line.pass_on(time), [(1, ACKS, b"a")])
        self.assert_nothing(line.pass_on(time + 60000), -6)

    def test_what_acks_another_place_is_refused(self):
        for flags in (ACKS, ACKS | BEGIN, ACKS | END):
            for acked in (0, 2, -1, 1 + 2 ** 31):
                line = self.begun()
                self.assert_reset(line.hear(50, 0, acked, flags, FULL), BASE + acked)
                self.assert_due(line, 1000)

    def test_reset(self):
        line = self.begun()
        self.assert_nothing(line.hear(50, 0, 1, RESET))
        self.assert_nothing(line.hear(50, 0, 2, RESET | ACKS))
        self.assert_nothing(line.hear(50, 0, 0, RESET | ACKS | BEGIN))
        self.assert_nothing(line.hear(50, 0, None, RESET | BEGIN))
        self.assert_due(line, 1000)
        self.assert_nothing(line.hear(60, 0, 1, RESET | ACKS))
        self.assert_nothing(line.peek(10 ** 6), -6)
        self.assert_nothing(line.hear(60, 0, 1, BEGIN | ACKS), -4)

    def test_reset_with_a_begin_ends_it(self):
        line = self.begun()
        self.assert_nothing(line.hear(60, 0, 1, RESET | ACKS | BEGIN))
        self.assert_nothing(line.read(60), -6)

    def test_what_has_no_begin_is_nothing(self):
        line = self.begun()
        for flags in (0, END, ACKS, ACKS | END):
            self.assert_nothing(line.hear(50, 0, 1, flags, FULL, data=b"abc"))
        self.assert_due(line, 1000)
        self.assertEqual(line.read(60).told, [])

    def test_begin_that_does_not_ack(self):
        line = self.begun()
        answer = line.hear(100, 0, None, BEGIN, FULL)
        self.assertEqual(answer.sent, [Seen(THEM, (MINE, THEIRS), BASE, OTHER_BASE + 1, BEGIN | ACKS, 1024, [], b"")])
        self.assert_due(line, 1000)
        self.assert_nothing(line.hear(300, 1, 1, window=FULL))
        line.write(300, b"a")
        # Timed since 0: 300 and 600 together.
        self.assert_due(line, 1200)

    def test_tries_go_on_in_phase_3(self):
        line = self.begun()
        for time in (1000, 3000):
            self.assert_sent(line.pass_on(time), [(0, BEGIN, b"")])
        line.hear(3100, 0, None, BEGIN, FULL)
        for time in (7000, 15000, 31000):
            self.assert_sent(line.pass_on(time), [(0, BEGIN | ACKS, b"")])
        self.assert_nothing(line.pass_on(63000), -6)

    def test_room_of_the_begin(self):
        for flags in (BEGIN, BEGIN | ACKS):
            line = self.begun()
            line.write(0, text(1, 500))
            answer = line.hear(50, 0, 1 if flags & ACKS else None, flags, 3)
            if flags == BEGIN:
                answer = line.hear(60, 1, 1, window=0)
            self.assert_places(answer, [(1, 1), (1, 193)] if flags & ACKS else [(1, 193)])

    def test_data_and_end_of_a_begin_are_not_looked_at(self):
        line = self.begun()
        answer = line.hear(50, 0, 1, BEGIN | ACKS | END, FULL, [(1, 2)], b"abc")
        self.assert_ack(answer, 1, 1)
        self.assertEqual((line.read(60).number, line.read(60).told), (0, []))

    def test_another_sender_or_port(self):
        line = self.begun()
        good = (BASE + 1, BEGIN | ACKS)
        self.assert_nothing(line.came(THEM + 1, 5, packed(THEM + 1, ME, PORTS, OTHER_BASE, *good)), -2)
        self.assert_nothing(line.came(THEM, 5, packed(THEM, ME, (THEIRS + 1, MINE), OTHER_BASE, *good)), -2)
        self.assert_nothing(line.came(THEM, 5, packed(THEM, ME, (THEIRS, MINE + 1), OTHER_BASE, *good)), -2)
        self.assert_ack(line.came(THEM, 5, packed(THEM, ME, PORTS, OTHER_BASE, *good)), 1, 1)


class ComesToAnswered(SideTest):
    """What comes in phase 3."""

    def test_ack_opens_it(self):
        line = answered()
        self.assert_nothing(line.hear(100, 1, 1, window=FULL))
        self.assert_nothing(line.peek(10 ** 6))
        self.assert_sent(line.write(100, b"hello"), [(1, ACKS, b"hello")], 5)

    def test_ack_of_the_begin_makes_it_one_wider(self):
        line = answered()
        line.hear(100, 1, 1, window=FULL)
        self.assert_places(line.write(100, text(1, 8000)), [(1, 1401), (1401, 2801), (2801, 4201), (4201, 5601)])
        # 5601 wide, and then 1399 more: from 1401 on 7000 are just five segments.
        answer = line.hear(150, 1, 1400, window=FULL)
        self.assert_places(answer, [(5601, 7001)])

    def test_ack_of_another_place_is_refused(self):
        for acked in (0, 2, 5, -1):
            line = answered()
            self.assert_reset(line.hear(100, 1, acked, data=b"abc"), BASE + acked)
            self.assertEqual(line.read(100).told, [])
            self.assert_due(line, 1000)

    def test_begin_again_gets_an_ack(self):
        line = answered()
        self.assert_ack(line.hear(100, 0, None, BEGIN, FULL), 1, 1)
        self.assert_ack(line.hear(100, 0, 1, BEGIN | ACKS, FULL), 1, 1)
        self.assert_due(line, 1000)

    def test_what_does_not_ack_is_nothing(self):
        line = answered()
        self.assert_nothing(line.hear(100, 1, None, 0, data=b"abc"))
        self.assertEqual(line.read(100).told, [])
        self.assert_due(line, 1000)

    def test_reset_at_wanted_ends_it(self):
        line = answered()
        self.assert_nothing(line.hear(100, 1, 1, RESET))
        self.assert_nothing(line.read(100), -6)
        self.assert_nothing(line.peek(10 ** 6), -6)

    def test_data_with_the_ack_is_taken(self):
        line = answered()
        line.hear(100, 1, 1, window=FULL, data=b"abc")
        self.assertEqual(line.read(100).told, list(b"abc"))

    def test_bytes_and_end_written_before(self):
        line = answered()
        self.assert_nothing(line.write(10, b"abc"), 3)
        self.assert_nothing(line.close(10))
        self.assert_sent(line.hear(100, 1, 1, window=FULL), [(1, ACKS | END, b"abc")])

    def test_both_begin_at_once(self):
        line = Line()
        line.begin()
        line.hear(100, 0, None, BEGIN, FULL)
        self.assert_ack(line.hear(110, 0, 1, BEGIN | ACKS, FULL), 1, 1)
        self.assert_nothing(line.hear(120, 1, 1, window=FULL))
        self.assert_sent(line.write(130, b"x"), [(1, ACKS, b"x")], 1)


if __name__ == "__main__":
    unittest.main()
