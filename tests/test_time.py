"""What time does: lingering, an ack that's due, what's due (askings are tested with keep)."""

import unittest

from streamside.calls import begin_side, close, keep_up, take_come, wait_for_begin, write
from streamside.state import Side
from tests.helper import (ACKS, BASE, BEGIN, END, FULL, ME, MINE, RESET, THEIRS, THEM, Heard, SideTest, from_other, heard,
                          opened, text)


class Due(SideTest):
    """What's due in phase 4."""

    def test_eight_tries(self):
        line = opened()
        line.write(100, b"abc")
        time = 100
        for wait in (300, 600, 1200, 2400, 4800, 9600, 19200, 38400):
            time += wait
            self.assert_due(line, time)
            self.assert_sent(line.pass_on(time), [(1, ACKS, b"abc")])
        self.assert_nothing(line.peek(time + 59999))
        self.assert_nothing(line.pass_on(time + 60000), -6)
        self.assert_nothing(line.write(time + 60000, b"a"), -6)
        self.assert_nothing(line.peek(10 ** 8), -6)

    def test_what_comes_forgets_tries(self):
        line = opened()
        line.write(100, b"abc")
        for time in (400, 1000, 2200, 4600, 9400, 19000, 38200, 76600):
            line.pass_on(time)
        # It acks nothing, but somebody's there. Wait stays at 60000.
        line.hear(80000, 1, 1)
        for time in range(136600, 136600 + 8 * 60000, 60000):
            self.assert_sent(line.pass_on(time), [(1, ACKS, b"abc")])
        self.assert_nothing(line.pass_on(136600 + 8 * 60000), -6)

    def test_what_does_not_fit_forgets_no_tries(self):
        line = opened()
        line.write(100, b"abc")
        for time in (400, 1000, 2200, 4600, 9400, 19000, 38200, 76600):
            line.pass_on(time)
        line.hear(80000, 0, 1)
        self.assert_nothing(line.pass_on(136600), -6)

    def test_one_segment_is_sent_again(self):
        line = opened()
        line.write(100, text(1, 7000))
        self.assert_places(line.pass_on(400), [(1, 1401)])
        self.assert_nothing(line.pass_on(999))
        self.assert_places(line.pass_on(1000), [(1, 1401)])

    def test_segments_are_cut_anew(self):
        line = opened()
        line.write(100, text(1, 10))
        line.write(110, text(11, 600))
        self.assert_places(line.pass_on(400), [(1, 611)])

    def test_end_is_sent_again(self):
        line = opened()
        line.write(100, text(1, 10))
        line.close(110)
        self.assert_places(line.pass_on(400), [(1, 12)])

    def test_wait_counts_from_when_time_goes_on(self):
        line = opened()
        line.write(100, b"abc")
        line.pass_on(777)
        self.assert_due(line, 777 + 600)

    def test_due_once_in_a_call(self):
        line = opened()
        line.write(100, b"abc")
        self.assert_sent(line.pass_on(10 ** 7), [(1, ACKS, b"abc")])

    def test_one_byte_asks_for_room(self):
        line = opened(window=0)
        line.write(100, b"abc")
        self.assert_due(line, 400)
        self.assert_sent(line.pass_on(400), [(1, ACKS, b"a")])
        # Doubled, and from now on a byte is on its way.
        self.assert_due(line, 1000)
        self.assert_sent(line.pass_on(1000), [(1, ACKS, b"a")])
        self.assert_due(line, 2200)
        # Acked, not measured; it's due after 1200.
        self.assert_nothing(line.hear(1100, 1, 2))
        self.assert_due(line, 2300)
        self.assert_sent(line.pass_on(2300), [(2, ACKS, b"b")])
        # Room for the rest.
        self.assert_sent(line.hear(2400, 1, 3, window=1), [(3, ACKS, b"c")])
        self.assert_due(line, 2400 + 2400)

    def test_asking_for_room_is_no_try_while_it_is_answered(self):
        line = opened(window=0)
        line.write(100, b"abc")
        time = 400
        for _ in range(20):
            self.assert_sent(line.pass_on(time), [(1, ACKS, b"a")])
            self.assert_nothing(line.hear(time + 10, 1, 1))
            time += 60000

    def test_first_byte_that_asks_for_room_is_no_try(self):
        line = opened(window=0)
        line.write(100, b"abc")
        time = 100
        for wait in (300, 600, 1200, 2400, 4800, 9600, 19200, 38400, 60000):
            time += wait
            self.assert_sent(line.pass_on(time), [(1, ACKS, b"a")])
        self.assert_nothing(line.pass_on(time + 60000), -6)

    def test_one_byte_is_not_timed(self):
        line = opened(window=0)
        line.write(100, b"abc")
        line.pass_on(400)
        line.hear(410, 1, 2, window=0)
        # Not measured: the wait is 600 still.
        self.assert_due(line, 1010)

    def test_one_byte_goes_with_the_end(self):
        line = opened(window=0)
        line.write(100, b"ab")
        self.assert_nothing(line.close(110))
        self.assert_sent(line.pass_on(400), [(1, ACKS, b"a")])
        line.hear(500, 1, 2)
        self.assert_sent(line.pass_on(1100), [(2, ACKS | END, b"b")])
        self.assert_sent(line.pass_on(2300), [(2, ACKS | END, b"b")])

    def test_end_behind_one_byte_is_sent_alone_when_it_comes_later(self):
        line = opened(window=0)
        line.write(100, b"a")
        self.assert_sent(line.pass_on(400), [(1, ACKS, b"a")])
        self.assert_sent(line.close(410), [(2, ACKS | END, b"")])

    def test_byte_beyond_room_is_sent_again_alone(self):
        line = opened(window=1)
        line.write(100, text(1, 100))
        line.hear(200, 1, 65)
        # 100 measured again: wait is 250.
        self.assert_places(line.pass_on(450), [(65, 66)])
        self.assert_places(line.pass_on(950), [(65, 66)])

    def test_end_alone_is_sent_again_without_room(self):
        line = opened(window=0)
        line.close(100)
        self.assert_sent(line.pass_on(400), [(1, ACKS | END, b"")])

    def test_ack_due_is_said_ahead_of_what_is_due(self):
        line = opened()
        line.write(100, b"abc")
        line.hear(390, 1, 1, window=FULL, data=b"xy")
        answer = line.pass_on(430)
        expected = [Heard(4, 3, ACKS, 1023, [], b""), Heard(1, 3, ACKS, 1023, [], b"abc")]
        self.assertEqual([heard(one) for one in answer.sent], expected)

    def test_time_goes_on_ahead_of_the_call(self):
        line = opened()
        line.write(100, b"abc")
        # What's written comes too late to be sent again with the rest.
        self.assert_sent(line.write(400, b"de"), [(1, ACKS, b"abc")], 2)

    def test_what_comes_late_is_still_taken(self):
        line = opened()
        line.write(100, b"abc")
        self.assert_sent(line.hear(400, 1, 4, window=FULL, data=b"x"), [(1, ACKS, b"abc")])
        self.assertEqual(line.read(400).told, [120])

    def test_time_at_its_edge(self):
        line = opened()
        line.write(2 ** 62, b"abc")
        self.assert_nothing(line.pass_on(2 ** 62), 0)
        self.assert_nothing(line.pass_on(2 ** 62 + 1), -1)


def kept_up(time):
    """A side in phase 4 that is kept up; it heard at 100."""
    side = Side()
    begin_side(side, ME, MINE, THEM, THEIRS, BASE, 0)
    take_come(side, THEM, 100, from_other(0, 1, BEGIN | ACKS, FULL))
    keep_up(side, 100, time)
    return side


class Over(SideTest):
    """What a side knows when it's over, and when it's new."""

    def busy(self):
        """A side with something of everything, over by a reset."""
        side = kept_up(7)
        write(side, 200, list(text(1, 9000)))
        for ranges in ([(1401, 2801)], [(1401, 4201)], [(1401, 4201)]):
            take_come(side, THEM, 300, from_other(1, 1, ACKS, 0, ranges))
        take_come(side, THEM, 310, from_other(1, 1402, ACKS, 0, data=b"abc"))
        take_come(side, THEM, 320, from_other(9, 1402, ACKS | END, 0, data=b"abc"))
        close(side, 330)
        take_come(side, THEM, 340, from_other(4, 1402, ACKS, 0, data=b"d"))
        take_come(side, THEM, 350, from_other(5, 1402, RESET))
        side.out = []
        return side

    def test_nothing_is_due_timed_or_owed(self):
        side = self.busy()
        self.assertEqual((side.phase, side.why), (6, 2))
        self.assertEqual((side.due, side.timed_place, side.owed), (None, 0, 0))

    def test_ack_that_was_owed_is_not_said(self):
        side = kept_up(0)
        take_come(side, THEM, 200, from_other(1, 1, ACKS, 0, data=b"abc"))
        write(side, 210, [1])
        take_come(side, THEM, 220, from_other(4, 1, ACKS, 0, data=b"abc"))
        self.assertEqual((side.owed, side.timed_place, side.due), (1, 2, 510))
        take_come(side, THEM, 230, from_other(7, 1, RESET))
        self.assertEqual((side.phase, side.why), (6, 2))
        self.assertEqual((side.due, side.timed_place, side.owed), (None, 0, 0))

    def test_reset_of_a_begin(self):
        side = Side()
        begin_side(side, ME, MINE, THEM, THEIRS, BASE, 0)
        take_come(side, THEM, 100, from_other(0, 1, RESET | ACKS))
        self.assertEqual((side.phase, side.why, side.due, side.timed_place), (6, 2, None, 0))

    def test_both_ended(self):
        side = kept_up(0)
        take_come(side, THEM, 200, from_other(1, 1, ACKS | END))
        close(side, 210)
        take_come(side, THEM, 220, from_other(2, 2))
        self.assertEqual((side.phase, side.why), (6, 1))

    def test_values_at_first(self):
        side = Side()
        self.assertEqual(wait_for_begin(side, ME, MINE, BASE, 77), [0])
        self.assertEqual((side.phase, side.why, side.now), (1, 0, 77))
        self.assertEqual((side.first, side.next_place, side.top, side.room, side.last), (0, 0, 0, 0, 1))
        self.assertEqual((side.wide, side.slow, side.wait), (5600, 1048576, 1000))
        self.assertEqual((side.wanted, side.edge, side.owed, side.due), (0, 0, 0, None))
        self.assertEqual((side.same, side.mending, side.anew, side.tries, side.timed_place), (0, 0, 0, 0, 0))
        side = Side()
        begin_side(side, ME, MINE, THEM, THEIRS, BASE, 77)
        self.assertEqual((side.phase, side.first, side.next_place, side.top, side.last), (2, 0, 1, 1, 1))
        self.assertEqual((side.due, side.timed_place, side.timed_since), (1077, 1, 77))

    def test_new_side_keeps_time_alone(self):
        new = Side()
        self.assertEqual(wait_for_begin(new, 3, 4, 5, 1000), [0])
        old = self.busy()
        self.assertEqual(wait_for_begin(old, 3, 4, 5, 1000), [0])
        self.assertEqual(vars(old), vars(new))
        first = Side()
        begin_side(first, 3, 4, 5, 6, 7, 1000)
        again = self.busy()
        begin_side(again, 3, 4, 5, 6, 7, 1000)
        self.assertEqual(vars(again), vars(first))


class Lingering(SideTest):
    def test_over_after_60000(self):
        line = opened()
        line.close(110)
        line.hear(120, 1, 2, ACKS | END)
        self.assert_nothing(line.begin(now=60119), -4)
        self.assert_nothing(line.read(60119), -6)
        self.assert_nothing(line.came(THEM, 60119, [1]), -3)
        self.assert_nothing(line.came(THEM, 60120, [1]), -4)
        self.assertEqual(line.begin(now=60120).number, 0)

    def test_nothing_is_due_while_it_lingers(self):
        line = opened()
        line.write(105, b"a")
        line.close(110)
        line.hear(120, 1, 3, ACKS | END)
        self.assert_nothing(line.read(60119), -6)


if __name__ == "__main__":
    unittest.main()
