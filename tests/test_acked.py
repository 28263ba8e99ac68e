"""What's acked: measuring, how wide it gets, mending, and what's held."""

import unittest

from streamside.acking import pace_after
from streamside.state import Side
from tests.helper import ACKS, BEGIN, END, FULL, Line, SideTest, opened, text

WIDE_OPEN = 65535


def fork(line):
    other = Line()
    other.calls = list(line.calls)
    return other


def goes_out_whole(line, now, size):
    """Whether so many bytes and the end behind them may be sent at once."""
    other = fork(line)
    sent = other.write(now, bytes(size)).sent + other.close(now).sent
    return any(one.flags & END for one in sent)


def still_free(line, now):
    """How many more bytes may be on their way, as they go out: wide less what's on its way."""
    low, high = 0, 65000
    while low < high:
        middle = (low + high + 1) // 2
        if goes_out_whole(line, now, middle):
            low = middle
        else:
            high = middle - 1
    return low


def flowing(size=5600):
    """A side in phase 4 with much room and a wait of 300, that wrote so much at 1000."""
    line = opened(window=WIDE_OPEN)
    line.write(1000, text(1, size))
    return line


class Measured(SideTest):
    def test_first_and_later(self):
        line = opened()
        now = 1000
        place = 1
        # (took, wait) after 100: kept are 800 and 200.
        for took, wait in ((50, 293), (200, 364), (0, 393), (93, 318), (250, 439)):
            line.write(now, b"a")
            place += 1
            self.assert_nothing(line.hear(now + took, 1, place, window=FULL))
            other = fork(line)
            other.write(now + took, b"b")
            self.assert_due(other, now + took + wait)
            now += 1000

    def test_least_wait(self):
        for rtt, wait in ((0, 200), (10, 200), (66, 200), (67, 201), (100, 300)):
            line = opened(rtt=rtt)
            line.write(500, b"a")
            self.assert_due(line, 500 + wait)

    def test_first_measure_of_0_is_a_measure(self):
        line = opened(rtt=0)
        line.write(500, b"a")
        line.hear(699, 1, 2, window=FULL)
        line.write(1000, b"b")
        # Kept are 0 + 199 and 0 + 199: 24 and 199 together.
        self.assert_due(line, 1223)

    def test_most_wait(self):
        line = opened(rtt=999)
        mean, off, wait = 8 * 999, 2 * 999, 2997
        now = 10000
        place = 1
        for _ in range(12):
            line.write(now, b"a")
            place += 1
            took = wait - 1
            line.hear(now + took, 1, place, window=FULL)
            off = off - off // 4 + abs(took - mean // 8)
            mean = mean - mean // 8 + took
            wait = min(60000, mean // 8 + off)
            now += took
        self.assertEqual(wait, 60000)
        line.write(now, b"a")
        self.assert_due(line, now + 60000)

    def test_only_the_timed_place_is_measured(self):
        line = flowing(2800)
        line.hear(1100, 1, 1400)
        self.assert_due(line, 1400)
        line.hear(1150, 1, 1401)
        # Kept are 200 and 850.
        self.assert_due(line, 1456)

    def test_later_ack_measures_too(self):
        line = flowing(2800)
        line.hear(1150, 1, 2800)
        self.assert_due(line, 1456)

    def test_next_is_timed_when_it_is_sent(self):
        line = flowing(1400)
        line.hear(1100, 1, 1401)
        # Measured 100: kept are 150 and 800, so the wait is 250.
        line.write(2000, b"a")
        self.assert_due(line, 2250)
        line.hear(2100, 1, 1402)
        line.write(3000, b"a")
        # Once more: 113 and 800.
        self.assert_due(line, 3213)

    def test_sent_again_by_time_is_not_measured(self):
        line = flowing(10)
        line.pass_on(1300)
        line.hear(1310, 1, 11)
        line.write(1400, b"a")
        self.assert_due(line, 2000)

    def test_sent_anew_is_not_measured(self):
        line = flowing(2800)
        for now in (1100, 1110, 1120):
            line.hear(now, 1, 1)
        line.hear(1130, 1, 2801)
        line.write(1140, b"a")
        self.assert_due(line, 1440)

    def test_bytes_sent_below_top_are_not_timed(self):
        line = flowing(2800)
        line.pass_on(1300)
        # Both are sent again, the second at 1400; wait is 600 from then on.
        self.assert_places(line.hear(1400, 1, 1401), [(1401, 2801)])
        line.hear(1450, 1, 2801)
        line.write(1500, b"a")
        self.assert_due(line, 2100)


class Due(SideTest):
    def test_due_after_wait_from_each_new_ack(self):
        line = flowing(2800)
        line.hear(1200, 1, 2)
        self.assert_due(line, 1500)

    def test_nothing_is_due_when_all_is_acked(self):
        line = flowing(2800)
        line.hear(1200, 1, 2801)
        self.assert_nothing(line.peek(10 ** 7))

    def test_same_ack_puts_nothing_off(self):
        line = flowing(2800)
        line.hear(1200, 1, 1)
        self.assert_due(line, 1300)

    def test_acked_bytes_are_gone(self):
        line = flowing(4200)
        line.hear(1100, 1, 1501)
        answer = line.pass_on(1500)
        self.assert_places(answer, [(1501, 2901)])


class Wide(SideTest):
    def test_at_first(self):
        self.assertEqual(still_free(opened(window=WIDE_OPEN), 200), 5600)

    def test_gets_what_was_acked(self):
        for acked, wide in ((2, 5601), (1400, 6999), (1401, 7000), (1402, 7000), (5601, 7000)):
            line = flowing(5600)
            line.hear(1100, 1, acked)
            self.assertEqual(still_free(line, 1100), wide - (5601 - acked))

    def test_old_and_same_acks_widen_nothing(self):
        line = flowing(5600)
        line.hear(1100, 1, 1401)
        line.hear(1110, 1, 1)
        line.hear(1110, 1, 1401)
        self.assertEqual(still_free(line, 1110), 7000 - 4200)

    def test_slow_after_time_ran_out(self):
        line = flowing(5600)
        line.pass_on(1300)
        self.assert_nothing(line.hear(1310, 1, 5601))
        # 1400 and 1400 more; then it isn't below slow any more: 700 more, then 560.
        self.assertEqual(still_free(line, 1320), 2800)
        line.write(1400, text(5601, 1400))
        line.hear(1410, 1, 7001)
        self.assertEqual(still_free(line, 1420), 3500)
        line.write(1500, text(7001, 1))
        line.hear(1510, 1, 7002)
        self.assertEqual(still_free(line, 1520), 4060)

    def test_slow_is_half_of_what_was_on_its_way(self):
        line = flowing(11200)
        line.hear(1100, 1, 1401)
        line.hear(1110, 1, 2801)
        # From 2801 to 11201 are 8400: slow is 4200.
        self.assert_places(line.pass_on(3000), [(2801, 4201)])
        line.hear(3010, 1, 4201)
        line.hear(3020, 1, 5601)
        # 1400, 2800, 4200, then 466 more, then 420.
        line.hear(3030, 1, 11201)
        self.assertEqual(still_free(line, 3030), 4666)
        line.write(3040, text(11201, 1))
        line.hear(3050, 1, 11202)
        self.assertEqual(still_free(line, 3050), 5086)

    def test_1048576_at_most(self):
        side = Side()
        side.wide = 1048000
        side.widen(576)
        self.assertEqual(side.wide, 1048576)
        side.widen(1)
        self.assertEqual(side.wide, 1048576)

    def test_a_wide_one_gets_one(self):
        side = Side()
        side.wide, side.slow = 1040000, 2800
        pace_after(side, 1400)
        self.assertEqual(side.wide, 1040001)


class Mending(SideTest):
    """Three acks that say nothing new."""

    def test_third_same_ack_sends_anew(self):
        line = flowing(15000)
        self.assert_nothing(line.hear(1100, 1, 1))
        self.assert_nothing(line.hear(1100, 1, 1))
        # 2800 and 4200 wide: one more segment.
        self.assert_places(line.hear(1100, 1, 1), [(1, 1401), (5601, 7001)])
        # Each further one: 1400 more, but nothing's sent anew twice.
        self.assert_places(line.hear(1100, 1, 1), [(7001, 8401)])
        self.assert_places(line.hear(1100, 1, 1), [(8401, 9801)])

    def test_mended(self):
        line = flowing(7000)
        for _ in range(3):
            line.hear(1100, 1, 1)
        # Up to 5601, what top was. Wide is 2800 then, and a segment on its way.
        self.assert_nothing(line.hear(1200, 1, 5601))
        self.assertEqual(still_free(line, 1200), 1400)
        line.hear(1210, 1, 7001)
        self.assertEqual(still_free(line, 1210), 3500)

    def test_ack_of_a_part(self):
        line = flowing(15000)
        for _ in range(3):
            line.hear(1100, 1, 1)
        # 7000 less 1400 and 1400 more, from 1401 on.
        self.assert_places(line.hear(1150, 1, 1401), [(1401, 2801), (7001, 8401)])
        self.assert_places(line.hear(1160, 1, 2801), [(2801, 4201), (8401, 9801)])
        # One below is not yet mended: 7000 less 2799 and 1400 more, that's up to 11201.
        self.assert_places(line.hear(1170, 1, 5600), [(5600, 7000), (9801, 11201)])
        self.assert_nothing(line.hear(1180, 1, 5601))

    def test_ack_of_a_part_puts_off_what_is_due(self):
        line = flowing(5600)
        for _ in range(3):
            line.hear(1100, 1, 1)
        self.assert_due(line, 1300)
        line.hear(1150, 1, 1401)
        self.assert_due(line, 1450)

    def wider(self):
        """From 5601 to 15401 all is on its way, and it's mending: 4900 and 4200 wide."""
        line = flowing(15400)
        for acked in (1401, 2801, 4201, 5601):
            line.hear(1050, 1, acked)
        for _ in range(3):
            line.hear(1100, 1, 5601)
        return line

    def test_ack_of_more_than_wide(self):
        line = self.wider()
        self.assert_places(line.hear(1150, 1, 15400), [(15400, 15401)])
        self.assertEqual(still_free(line, 1160), 1399)

    def test_slow_is_half_of_what_is_on_its_way(self):
        line = self.wider()
        line.hear(1150, 1, 15401)
        self.assertEqual(still_free(line, 1160), 4900)

    def test_slow_is_2800_at_least(self):
        line = flowing(10)
        for _ in range(2):
            self.assert_nothing(line.hear(1100, 1, 1))
        self.assert_places(line.hear(1100, 1, 1), [(1, 11)])
        self.assertEqual(still_free(line, 1100), 6990)
        line.hear(1110, 1, 11)
        self.assertEqual(still_free(line, 1120), 2800)

    def test_new_ack_counts_anew(self):
        line = flowing(5600)
        for acked in (1, 1, 2, 2, 2):
            self.assert_nothing(line.hear(1100, 1, acked))
        self.assert_places(line.hear(1100, 1, 2), [(2, 1402)])

    def test_mended_counts_anew(self):
        line = flowing(5600)
        for _ in range(3):
            line.hear(1100, 1, 1)
        line.hear(1150, 1, 5601)
        line.write(1200, text(5601, 1400))
        for _ in range(2):
            self.assert_nothing(line.hear(1210, 1, 5601))
        self.assert_places(line.hear(1210, 1, 5601), [(5601, 7001)])

    def test_acks_that_are_not_quiet(self):
        for flags, window, data in ((ACKS, 0, b"x"), (ACKS | END, 0, b""), (ACKS, WIDE_OPEN, b"")):
            line = opened(window=FULL)
            line.write(1000, text(1, 5600))
            line.hear(1100, 1, 1)
            line.hear(1100, 1, 1)
            answer = line.hear(1100, 1, 1, flags, window, data=data)
            self.assertEqual([one for one in answer.sent if one.data], [])
            # It's not one of those in a row, nor does it end the row.
            place = 2 if data or flags & END else 1
            self.assert_places(line.hear(1100, place, 1, window=0), [(1, 1401)])

    def test_same_room_told_again_is_quiet(self):
        line = opened(window=FULL)
        line.write(1000, text(1, 5600))
        for _ in range(2):
            line.hear(1100, 1, 1, window=FULL)
        self.assert_places(line.hear(1100, 1, 1, window=FULL), [(1, 1401)])

    def test_acks_when_nothing_is_on_its_way(self):
        line = flowing(1400)
        line.hear(1100, 1, 1401)
        for _ in range(4):
            self.assert_nothing(line.hear(1100, 1, 1401))
        line.write(1200, text(1401, 1400))
        for _ in range(2):
            self.assert_nothing(line.hear(1210, 1, 1401))
        self.assert_places(line.hear(1210, 1, 1401), [(1401, 2801)])

    def test_old_acks_do_not_count(self):
        line = flowing(5600)
        line.hear(1100, 1, 1401)
        for _ in range(5):
            self.assert_nothing(line.hear(1110, 1, 1400))

    def test_time_that_runs_out_ends_mending(self):
        line = flowing(15000)
        for _ in range(3):
            line.hear(1100, 1, 1)
        self.assert_places(line.pass_on(1300), [(1, 1401)])
        # Not mending: the row begins anew.
        for _ in range(2):
            self.assert_nothing(line.hear(1310, 1, 1))
        # From 1 to 7001: 3500 and 4200 wide from there on; next is 1401, and all that's sent again.
        answer = line.hear(1310, 1, 1)
        expected = [(1, 1401), (1401, 2801), (2801, 4201), (4201, 5601), (5601, 7001)]
        self.assert_places(answer, expected)

    def test_end_is_sent_anew_with_its_bytes(self):
        line = flowing(1000)
        self.assert_sent(line.close(1010), [(1001, ACKS | END, b"")])
        for _ in range(2):
            line.hear(1100, 1, 1)
        self.assert_places(line.hear(1100, 1, 1), [(1, 1002)])

    def test_end_alone_is_sent_anew(self):
        line = flowing(1400)
        line.close(1010)
        line.hear(1050, 1, 1401)
        for _ in range(2):
            line.hear(1100, 1, 1401)
        self.assert_sent(line.hear(1100, 1, 1401), [(1401, ACKS | END, b"")])
        # That was all of it.
        self.assert_nothing(line.hear(1100, 1, 1401))

    def test_bytes_ahead_of_the_end_are_sent_anew_without_it(self):
        line = flowing(2800)
        line.close(1010)
        for _ in range(2):
            line.hear(1100, 1, 1)
        self.assert_places(line.hear(1100, 1, 1), [(1, 1401)])
        self.assert_places(line.hear(1150, 1, 1401), [(1401, 2802)])

    def test_end_that_was_not_sent_is_not_sent_anew(self):
        line = flowing(15400)
        for acked in (1401, 2801, 4201, 5601):
            line.hear(1050, 1, acked)
        self.assert_places(line.pass_on(1500), [(5601, 7001)])
        self.assert_nothing(line.close(1510))
        for _ in range(3):
            answer = line.hear(1520, 1, 5601)
        # 9100 wide: from 5601 up to 14701.
        again = [(5601, 7001), (7001, 8401), (8401, 9801), (9801, 11201), (11201, 12601), (12601, 14001), (14001, 14701)]
        self.assert_places(answer, again)
        self.assert_places(line.hear(1530, 1, 14001), [(14001, 15401), (14701, 15402)])

    def test_no_more_than_was_sent_is_sent_anew(self):
        line = opened(window=10)
        line.write(1000, text(1, 2000))
        for _ in range(2):
            line.hear(1100, 1, 1)
        self.assert_places(line.hear(1100, 1, 1), [(1, 641)])


class Held(SideTest):
    """Ranges that the other has said to have."""

    def same_acks(self, line, count, ranges, acked=1):
        answers = [line.hear(1100, 1, acked, ranges=ranges) for _ in range(count)]
        return answers[-1]

    def test_gaps_alone_are_sent_anew(self):
        line = flowing(5600)
        ranges = [(1401, 2801), (4201, 5601)]
        self.assert_places(self.same_acks(line, 3, ranges), [(1, 1401)])
        self.assert_places(self.same_acks(line, 1, ranges), [(2801, 4201)])
        self.assert_nothing(self.same_acks(line, 1, ranges))

    def test_nothing_above_the_last_range_is_sent_anew(self):
        line = flowing(5600)
        ranges = [(1401, 2801)]
        self.assert_places(self.same_acks(line, 3, ranges), [(1, 1401)])
        self.assert_nothing(self.same_acks(line, 2, ranges))

    def test_gap_of_few_bytes(self):
        line = flowing(5600)
        ranges = [(101, 1001), (1051, 5601)]
        self.assert_places(self.same_acks(line, 3, ranges), [(1, 101)])
        self.assert_places(self.same_acks(line, 1, ranges), [(1001, 1051)])
        self.assert_nothing(self.same_acks(line, 1, ranges))

    def test_ranges_are_gathered(self):
        line = flowing(5600)
        for ranges in ([(1401, 2801)], [(4201, 5601)], [(2801, 3001), (3501, 4201)]):
            answer = self.same_acks(line, 1, ranges)
        self.assert_places(answer, [(1, 1401)])
        self.assert_places(self.same_acks(line, 1, []), [(3001, 3501)])

    def test_part_acked_goes_on_behind_what_is_held(self):
        line = flowing(5600)
        ranges = [(1401, 2801), (4201, 5601)]
        self.same_acks(line, 3, ranges)
        self.assert_places(line.hear(1150, 1, 2801, ranges=[(4201, 5601)]), [(2801, 4201)])

    def test_ranges_below_what_is_acked_are_gone(self):
        line = flowing(5600)
        self.same_acks(line, 2, [(1401, 2801)])
        line.hear(1110, 1, 2801)
        # No range is held, so it's sent anew from the first on.
        self.assert_places(self.same_acks(line, 3, [], 2801), [(2801, 4201)])

    def test_range_acked_in_part_is_held(self):
        line = flowing(5600)
        self.same_acks(line, 1, [(1401, 4201)])
        line.hear(1110, 1, 2000)
        self.assert_nothing(self.same_acks(line, 3, [], 2000))
        self.assert_places(self.same_acks(line, 1, [(4301, 5601)], 2000), [(4201, 4301)])

    def test_mending_anew_begins_at_the_first_place(self):
        line = flowing(15000)
        self.same_acks(line, 3, [])
        self.same_acks(line, 2, [])
        # Up to 9801 it was sent. A gap above what's mended is sent anew, too.
        self.assert_places(self.same_acks(line, 1, [(1401, 7001), (8401, 9801)]), [(7001, 8401), (9801, 11201)])
        self.assert_nothing(line.hear(1150, 1, 5601))
        self.assert_places(self.same_acks(line, 3, [], 5601), [(7001, 8401), (11201, 12601)])

    def test_ranges_that_make_no_sense(self):
        wrong = [(1, 1401), (0, 2801), (-5, 2801), (2801, 5602), (2801, 2801), (4201, 2801), (2801, 2801 + 2 ** 31), (2801, -5)]
        for one in wrong:
            line = flowing(5600)
            self.assert_places(self.same_acks(line, 3, [one]), [(1, 1401)])
            # As if nothing was held: what's first was sent anew already.
            self.assert_nothing(self.same_acks(line, 1, [one]))
            # From 1401 on next isn't held.
            line.pass_on(1400)
            self.assert_places(line.hear(1500, 1, 1401), [(1401, 2801), (2801, 4201)])

    def test_range_right_behind_the_first_place(self):
        line = flowing(5600)
        self.assert_places(self.same_acks(line, 3, [(2, 5601)]), [(1, 2)])

    def test_range_at_what_is_acked_by_this_ack(self):
        line = flowing(5600)
        line.hear(1050, 1, 1401, ranges=[(1401, 2801)])
        self.assert_places(self.same_acks(line, 3, [], 1401), [(1401, 2801)])
        line = flowing(5600)
        line.hear(1050, 1, 1401, ranges=[(1402, 2801)])
        self.assert_places(self.same_acks(line, 3, [], 1401), [(1401, 1402)])

    def test_ranges_of_an_old_ack(self):
        line = flowing(5600)
        line.hear(1050, 1, 1401)
        line.hear(1060, 1, 1, ranges=[(1401, 2801)])
        line.hear(1060, 1, 1, ranges=[(4201, 5601)])
        self.assert_places(self.same_acks(line, 3, [], 1401), [(1401, 2801)])
        self.assert_places(self.same_acks(line, 1, [], 1401), [(2801, 4201)])

    def test_all_four_ranges_count(self):
        line = flowing(5600)
        ranges = [(11, 21), (31, 41), (51, 61), (71, 5601)]
        self.assert_places(self.same_acks(line, 3, ranges), [(1, 11)])
        for start in (21, 41, 61):
            self.assert_places(self.same_acks(line, 1, ranges), [(start, start + 10)])
        self.assert_nothing(self.same_acks(line, 1, ranges))

    def test_time_that_runs_out_forgets_them(self):
        line = flowing(5600)
        line.hear(1100, 1, 1, ranges=[(1401, 5601)])
        self.assert_places(line.pass_on(1300), [(1, 1401)])
        self.assert_places(line.hear(1310, 1, 1401), [(1401, 2801), (2801, 4201)])

    def test_next_goes_behind_what_is_held(self):
        line = flowing(5600)
        line.pass_on(1300)
        # 200 bytes below top wait for nothing.
        answer = line.hear(1310, 1, 1401, ranges=[(3001, 5601)])
        self.assert_places(answer, [(1401, 2801), (2801, 3001)])
        self.assert_places(line.write(1320, text(5601, 1400)), [])

    def test_held_up_to_last_then_the_end(self):
        line = flowing(2800)
        line.close(1000)
        line.pass_on(1300)
        answer = line.hear(1310, 1, 1401, ranges=[(1402, 2801)])
        self.assert_places(answer, [(1401, 1402), (2801, 2802)])

    def test_end_held_too(self):
        line = flowing(2800)
        line.close(1000)
        line.pass_on(1300)
        answer = line.hear(1310, 1, 1401, ranges=[(1402, 2802)])
        self.assert_places(answer, [(1401, 1402)])

    def test_numbers_of_a_begin_tell_no_ranges(self):
        line = Line()
        line.begin()
        line.write(10, text(1, 100))
        answer = line.hear(100, 0, 1, BEGIN | ACKS, FULL, [(2, 50)])
        self.assert_places(answer, [(1, 1), (1, 101)])


if __name__ == "__main__":
    unittest.main()
