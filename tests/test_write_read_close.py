"""Promises 4, 5 and 6 (write, read, close), and all that may be sent."""

import unittest

from streamside.calls import write
from streamside.state import Side
from tests.helper import (ACKS, BEGIN, END, FULL, RESET, Heard, Line, SideTest, answered, heard, lines_by_phase, opened,
                          text)

WRONG_TIMES = (2 ** 62 + 1, 2 ** 64 - 1)
EDGE = 65537


class Write(SideTest):
    """Promise 4."""

    def test_refusals(self):
        expected = {0: -4, 1: -4, 2: 1, 3: 1, 4: 1, 5: -6, 6: -6}
        for phase, line in lines_by_phase().items():
            for now in WRONG_TIMES:
                self.assert_nothing(line.write(now, b"a"), -1)
            self.assertEqual(line.write(200, b"a").number, expected[phase])

    def test_refused_while_closing(self):
        line = opened()
        line.close(110)
        self.assert_nothing(line.write(120, b"a"), -6)
        self.assert_nothing(line.write(120, b""), -6)

    def test_time_goes_on_where_a_refusal_follows(self):
        line = opened()
        line.close(110)
        self.assert_sent(line.write(410, b"a"), [(1, ACKS | END, b"")], -6)

    def test_edges_of_time(self):
        self.assert_nothing(Line().write(2 ** 62, b"a"), -4)
        self.assert_nothing(Line().write(2 ** 62 + 1, b"a"), -1)

    def test_no_bytes(self):
        line = opened()
        self.assert_nothing(line.write(110, b""))
        self.assert_nothing(line.peek(10 ** 6))

    def test_bytes_are_sent_at_once(self):
        line = opened()
        answer = line.write(110, b"hello")
        self.assertEqual([heard(one) for one in answer.sent], [Heard(1, 1, ACKS, FULL, [], b"hello")])
        self.assertEqual(answer.number, 5)

    def test_as_many_as_there_is_room_for(self):
        line = opened()
        self.assertEqual(line.write(110, text(1, 65536)).number, 65536)
        self.assertEqual(line.write(110, b"ab").number, 0)
        line.hear(120, 1, 1401, window=FULL)
        self.assertEqual(line.write(130, bytes(2000)).number, 1400)
        line = opened()
        self.assertEqual(line.write(110, text(1, 131072)).number, 65536)

    def test_room_for_bytes_before_it_is_open(self):
        for line in (Line(), answered()):
            if not line.calls:
                line.begin()
            self.assertEqual(line.write(10, text(1, 65530)).number, 65530)
            self.assertEqual(line.write(10, bytes(7)).number, 6)

    def test_2_to_30_in_all(self):
        side = Side()
        side.phase = 2
        side.first = 2 ** 30 - 4
        side.last = 2 ** 30 - 4
        self.assertEqual(write(side, 0, list(b"abcdefgh")), [5])
        self.assertEqual(write(side, 0, list(b"x")), [0])
        self.assertEqual(side.unacked, list(b"abcde"))

    def test_few_bytes_wait_for_what_is_on_its_way(self):
        line = opened()
        self.assert_sent(line.write(110, b"abc"), [(1, ACKS, b"abc")], 3)
        self.assert_nothing(line.write(120, b"de"), 2)
        self.assert_nothing(line.write(120, b"fg"), 2)
        self.assert_sent(line.hear(130, 1, 4, window=FULL), [(4, ACKS, b"defg")])

    def test_a_full_segment_waits_for_nothing(self):
        line = opened()
        line.write(110, text(1, 3))
        self.assert_nothing(line.write(110, text(4, 1399)), 1399)
        self.assert_places(line.write(110, text(1403, 1)), [(4, 1404)])

    def test_no_more_than_1400_bytes_each_and_5600_in_all(self):
        line = opened()
        expected = [(1, 1401), (1401, 2801), (2801, 4201), (4201, 5601)]
        self.assert_places(line.write(110, text(1, 15000)), expected)

    def test_few_bytes_that_wide_leaves_wait(self):
        line = opened()
        line.write(110, text(1, 100))
        self.assert_places(line.write(110, text(101, 9000)), [(101, 1501), (1501, 2901), (2901, 4301)])
        # 5600 from 101 on, and 100 more that were acked.
        self.assert_places(line.hear(120, 1, 101, window=FULL), [(4301, 5701)])

    def test_room(self):
        line = opened(window=25)
        # Up to place 1601: what's left of that room waits.
        self.assert_places(line.write(110, text(1, 5000)), [(1, 1401)])
        self.assert_places(line.hear(120, 1, 1401, window=0), [(1401, 1601)])
        self.assert_places(line.hear(130, 1, 1601, window=22), [(1601, 3001)])

    def test_room_never_shrinks(self):
        line = opened(window=50)
        line.hear(110, 1, 1, window=3)
        self.assert_places(line.write(120, text(1, 5000)), [(1, 1401), (1401, 2801)])

    def test_room_alone_opens(self):
        line = opened(window=0)
        self.assert_nothing(line.write(110, text(1, 100)), 100)
        self.assert_places(line.hear(120, 1, 1, window=1), [(1, 65)])

    def test_due_after_wait(self):
        line = opened()
        line.write(110, b"a")
        self.assert_due(line, 410)
        line = opened(window=0)
        line.write(110, b"a")
        self.assert_due(line, 410)

    def test_first_of_several_says_when_it_is_due(self):
        line = opened()
        line.write(110, b"a")
        line.write(200, text(2, 1400))
        self.assert_due(line, 410)


class Read(SideTest):
    """Promise 5."""

    def test_refusals(self):
        expected = {0: -4, 1: -4, 2: 0, 3: 0, 4: 0, 5: -6, 6: -6}
        for phase, line in lines_by_phase().items():
            for now in WRONG_TIMES:
                self.assert_nothing(line.read(now), -1)
            self.assert_nothing(line.read(200), expected[phase])
            self.assert_nothing(line.read(200, 0), expected[phase])

    def test_edges_of_time(self):
        self.assert_nothing(Line().read(2 ** 62), -4)
        self.assert_nothing(Line().read(2 ** 62 + 1), -1)

    def test_most_at_most(self):
        line = opened()
        line.hear(110, 1, 1, window=FULL, data=b"abcdef")
        self.assertEqual(line.read(120, 0).told, [])
        self.assertEqual(line.read(120, 1).told, [97])
        self.assertEqual(line.read(120, 2).told, [98, 99])
        answer = line.read(120, 100)
        self.assertEqual((answer.number, answer.told), (3, [100, 101, 102]))
        self.assert_nothing(line.read(120, 100))

    def test_left_when_it_is_over(self):
        line = opened()
        line.hear(110, 1, 1, window=FULL, data=b"abc")
        line.hear(120, 4, 1, RESET)
        self.assertEqual(line.read(130, 2).told, [97, 98])
        self.assert_nothing(line.peek(130), 0)
        self.assertEqual(line.read(130, 2).told, [99])
        self.assert_nothing(line.read(130, 2), -6)

    def test_left_when_the_end_has_come(self):
        line = opened()
        line.hear(110, 1, 1, ACKS | END, FULL, data=b"abc")
        self.assertEqual(line.read(130, 2).told, [97, 98])
        self.assert_nothing(line.read(130, 0), 0)
        self.assertEqual(line.read(130, 2).told, [99])
        self.assert_nothing(line.read(130, 2), -6)

    def test_time_goes_on_where_a_refusal_follows(self):
        line = opened()
        line.hear(110, 1, 1, ACKS | END, FULL)
        line.write(120, b"a")
        self.assert_sent(line.read(420), [(1, ACKS, b"a")], -6)

    def full_up_to(self, size):
        line = opened()
        place = 1
        while place <= size:
            step = min(1400, size + 1 - place)
            line.hear(200, place, 1, window=FULL, data=bytes(step))
            place += step
        line.pass_on(1000)
        return line

    def test_edge_told_anew(self):
        line = self.full_up_to(2800)
        # 62736 and what's read, cut by 64, must be 64136 or more: from 1456 on.
        answer = line.read(1100, 1455)
        self.assertEqual((answer.number, answer.sent), (1455, []))
        answer = line.read(1100, 1)
        self.assertEqual([heard(one) for one in answer.sent], [Heard(1, 2801, ACKS, 1003, [], b"")])
        answer = line.read(1100)
        self.assertEqual((answer.number, answer.sent), (1344, []))

    def test_edge_told_anew_at_1400_just(self):
        # With nothing unread the edge goes up by as much as came.
        for size, count in ((1399, 0), (1400, 1)):
            line = opened()
            line.hear(200, 1, 1, window=FULL, data=bytes(size))
            self.assertEqual(len(line.read(210).sent), count)

    def test_edge_is_not_told_anew_once_the_end_has_come(self):
        line = self.full_up_to(2800)
        line.hear(1100, 2801, 1, ACKS | END, FULL)
        answer = line.read(1100)
        self.assertEqual((answer.number, answer.sent), (2800, []))

    def test_edge_is_not_told_anew_when_it_is_over(self):
        line = self.full_up_to(2800)
        line.hear(1100, 2801, 1, RESET)
        answer = line.read(1100)
        self.assertEqual((answer.number, answer.sent), (2800, []))

    def test_reading_while_an_ack_is_owed(self):
        line = opened()
        line.hear(110, 1, 1, window=FULL, data=b"abc")
        line.read(120)
        self.assert_ack(line.pass_on(150), 1, 4, 1023)

    def test_edge_moves_by_1400_or_more(self):
        line = opened()
        line.hear(200, 1, 1, window=FULL, data=bytes(1000))
        self.assertEqual(line.read(210).sent, [])
        self.assert_ack(line.pass_on(240), 1, 1001, (EDGE - 1001) // 64)
        line.hear(300, 1001, 1, window=FULL, data=bytes(1000))
        answer = line.read(310)
        self.assertEqual([heard(one) for one in answer.sent], [Heard(1, 2001, ACKS, 1024, [], b"")])
        self.assert_nothing(line.pass_on(1000))
        line.hear(1100, 2001, 1, window=FULL, data=bytes(1000))
        self.assertEqual(line.read(1110).sent, [])
        self.assert_ack(line.pass_on(1140), 1, 3001, (EDGE + 2000 - 3001) // 64)


class Close(SideTest):
    """Promise 6."""

    def test_refusals(self):
        expected = {0: -4, 1: -4, 2: 0, 3: 0, 4: 0, 5: -6, 6: -6}
        for phase, line in lines_by_phase().items():
            for now in WRONG_TIMES:
                self.assert_nothing(line.close(now), -1)
            self.assertEqual(line.close(200).number, expected[phase])
            self.assert_nothing(line.close(200), -4 if phase in (0, 1) else -6)

    def test_edges_of_time(self):
        self.assert_nothing(Line().close(2 ** 62), -4)
        self.assert_nothing(Line().close(2 ** 62 + 1), -1)

    def test_time_goes_on_where_a_refusal_follows(self):
        line = opened()
        line.close(110)
        self.assert_sent(line.close(410), [(1, ACKS | END, b"")], -6)

    def test_end_alone(self):
        line = opened()
        self.assert_sent(line.close(110), [(1, ACKS | END, b"")])
        self.assert_due(line, 410)
        self.assert_sent(line.pass_on(410), [(1, ACKS | END, b"")])

    def test_end_needs_no_room(self):
        line = opened(window=0)
        self.assert_sent(line.close(110), [(1, ACKS | END, b"")])

    def test_end_behind_what_is_on_its_way(self):
        line = opened()
        line.write(110, b"abc")
        self.assert_sent(line.close(120), [(4, ACKS | END, b"")])

    def test_end_goes_with_the_last_bytes(self):
        line = opened()
        line.write(110, b"abc")
        line.write(110, b"de")
        self.assert_sent(line.close(120), [(4, ACKS | END, b"de")])
        line = opened()
        line.write(110, text(1, 3000))
        self.assert_places(line.close(110), [(2801, 3002)])

    def test_end_waits_for_bytes_ahead_of_it(self):
        line = opened(window=1)
        line.write(110, text(1, 100))
        self.assert_nothing(line.close(120))
        self.assert_places(line.hear(130, 1, 65, window=1), [(65, 102)])

    def test_end_waits_for_wide(self):
        line = opened()
        line.write(110, text(1, 5700))
        self.assert_nothing(line.close(110))
        self.assert_places(line.hear(120, 1, 1401, window=FULL), [(5601, 5702)])

    def test_few_bytes_not_up_to_last_wait_though_it_is_closing(self):
        line = opened(window=25)
        line.write(110, text(1, 1700))
        self.assert_nothing(line.close(110))

    def test_other_can_still_write(self):
        line = opened()
        line.close(110)
        line.hear(120, 1, 2, window=FULL, data=b"abc")
        self.assertEqual(line.read(130).told, list(b"abc"))

    def test_lingers_if_it_closed_first(self):
        line = opened()
        line.close(110)
        line.hear(120, 1, 2, window=FULL)
        self.assert_ack(line.hear(130, 1, 2, ACKS | END, FULL), 2, 2, 1023)
        self.assert_nothing(line.begin(now=60129), -4)
        # Whatever comes anew is acked, and it lingers on.
        self.assert_ack(line.hear(50000, 1, 2, ACKS | END, FULL), 2, 2, 1023)
        self.assert_nothing(line.hear(109999, 2, 2))
        self.assert_nothing(line.hear(110000, 2, 2), -4)

    def test_lingers_if_ends_cross(self):
        line = opened()
        line.close(110)
        self.assert_ack(line.hear(130, 1, 1, ACKS | END, FULL), 2, 2, 1023)
        self.assert_nothing(line.hear(140, 2, 2))
        self.assert_nothing(line.hear(60139, 2, 2))
        self.assert_nothing(line.hear(60140, 2, 2), -4)

    def test_over_if_the_other_closed_first(self):
        line = opened()
        line.hear(110, 1, 1, ACKS | END, FULL)
        self.assert_sent(line.close(120), [(1, ACKS | END, b"")])
        self.assert_nothing(line.hear(130, 2, 1))
        self.assert_nothing(line.write(130, b"a"), -6)
        self.assert_nothing(line.hear(130, 2, 2))
        self.assert_nothing(line.hear(130, 2, 2), -4)
        self.assert_nothing(line.peek(10 ** 7), -6)

    def test_over_only_when_the_end_too_is_acked(self):
        line = opened()
        line.hear(110, 1, 1, ACKS | END, FULL)
        line.write(120, b"abc")
        line.close(120)
        self.assert_nothing(line.hear(130, 2, 4))
        self.assert_due(line, 458)
        self.assert_nothing(line.hear(140, 2, 5))
        self.assert_nothing(line.hear(150, 2, 5), -4)

    def test_not_over_before_the_other_ends(self):
        line = opened()
        line.close(110)
        self.assert_nothing(line.hear(120, 1, 2, window=FULL))
        self.assert_nothing(line.hear(10 ** 7, 1, 2, window=FULL))

    def test_end_known_is_not_yet_come(self):
        # The other's end is told at 120, but comes at 140: the closing at 130 is the earlier.
        line = opened()
        line.hear(120, 4, 1, ACKS | END, FULL)
        line.close(130)
        line.hear(140, 1, 2, ACKS | END, FULL, data=b"abc")
        self.assert_nothing(line.begin(now=150), -4)
        self.assert_nothing(line.hear(60139, 5, 2))
        self.assert_nothing(line.hear(60140, 5, 2), -4)

    def test_reset_while_it_lingers(self):
        line = opened()
        line.close(110)
        line.hear(120, 1, 2, ACKS | END)
        self.assert_nothing(line.hear(130, 1, 2, RESET))
        self.assert_nothing(line.hear(60119, 2, 2))
        self.assert_nothing(line.hear(60119, 2, 2, RESET))
        self.assert_nothing(line.hear(60119, 2, 2), -4)

    def test_data_while_it_lingers_gets_an_ack(self):
        line = opened()
        line.close(110)
        line.hear(120, 1, 2, ACKS | END)
        self.assert_ack(line.hear(130, 2, 2, data=b"abc"), 2, 2, 1023)
        self.assert_nothing(line.read(130), -6)
        # It fitted, so it doesn't linger on for that.
        self.assert_nothing(line.hear(60119, 2, 2))
        self.assert_nothing(line.hear(60120, 2, 2), -4)


class Begun(SideTest):
    def test_phase_4_alone_sends(self):
        line = Line()
        line.begin()
        self.assert_nothing(line.write(10, text(1, 3000)), 3000)
        line.hear(20, 0, None, BEGIN, FULL)
        self.assert_nothing(line.write(30, text(3001, 10)), 10)
        self.assert_nothing(line.close(40))
        self.assert_due(line, 1000)


if __name__ == "__main__":
    unittest.main()
