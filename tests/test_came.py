"""Promise 3 (came): its refusals, what fits, resets, and what is taken."""

import unittest

from tests.helper import (ACKS, BASE, BEGIN, END, FULL, ME, MINE, OTHER_BASE, RESET, THEIRS, THEM, Heard, Line, SideTest,
                          answered, heard, lines_by_phase, opened, packed)

PORTS = (THEIRS, MINE)
EDGE = 65537


class Refusals(SideTest):
    def test_wrong_arguments(self):
        for line in lines_by_phase().values():
            for sender in (0, 2 ** 32 - 1, 2 ** 64 - 1):
                self.assert_nothing(line.came(sender, 5, []), -1)
            self.assert_nothing(line.came(THEM, 2 ** 62 + 1, []), -1)

    def test_phases_that_refuse(self):
        for phase, line in lines_by_phase().items():
            self.assert_nothing(line.came(THEM, 200, [1]), -4 if phase in (0, 6) else -3)

    def test_edges_of_arguments(self):
        for sender, now in ((1, 0), (2 ** 32 - 2, 2 ** 62)):
            self.assert_nothing(Line().came(sender, now, []), -4)

    def test_sum_is_refused_ahead_of_ports(self):
        line = opened()
        raw = packed(THEM, ME, (1, 2), OTHER_BASE + 1, BASE + 1, ACKS)
        self.assert_nothing(line.came(THEM, 150, raw), -2)
        raw[16] ^= 1
        self.assert_nothing(line.came(THEM, 150, raw), -3)

    def test_another_sender_or_port(self):
        for line in (answered(), opened()):
            good = (OTHER_BASE + 1, BASE + 1, ACKS, FULL, (), b"abc")
            self.assert_nothing(line.came(THEM + 1, 150, packed(THEM + 1, ME, PORTS, *good)), -2)
            self.assert_nothing(line.came(THEM, 150, packed(THEM, ME, (THEIRS + 1, MINE), *good)), -2)
            self.assert_nothing(line.came(THEM, 150, packed(THEM, ME, (THEIRS, MINE - 1), *good)), -2)
            self.assertEqual(line.read(150).told, [])
            self.assert_nothing(line.came(THEM, 150, packed(THEM, ME, PORTS, *good)))
            self.assertEqual(line.read(150).told, list(b"abc"))

    def test_time_goes_on_where_a_refusal_follows(self):
        line = opened()
        line.write(100, b"a")
        self.assert_sent(line.came(THEM, 400, [9]), [(1, ACKS, b"a")], -3)
        line = opened()
        line.write(100, b"a")
        answer = line.came(THEM + 1, 400, packed(THEM + 1, ME, PORTS, OTHER_BASE + 1, BASE + 1, ACKS))
        self.assert_sent(answer, [(1, ACKS, b"a")], -2)

    def test_over_through_time_refuses(self):
        line = opened()
        line.close(110)
        line.hear(120, 1, 2, ACKS | END)
        self.assert_nothing(line.hear(60120, 1, 2), -4)

    def test_time_never_goes_back(self):
        line = opened()
        line.pass_on(5000)
        line.hear(100, 1, 1, window=FULL, data=b"a")
        self.assert_due(line, 5040)


class Fits(SideTest):
    """What fits is heard; of what doesn't an ack is said."""

    def assert_fits(self, place, data=b"", flags=ACKS):
        line = opened()
        line.write(110, b"z")
        line.hear(150, place, 2, flags, FULL, data=data)
        # The ack in what fits counts: nothing is sent anew.
        self.assertEqual([one for one in line.peek(500).sent if one.data], [])

    def assert_does_not_fit(self, place, data=b"", flags=ACKS, window=FULL):
        line = opened()
        line.write(110, b"z")
        self.assert_ack(line.hear(150, place, 2, flags, FULL, data=data), 2, 1, window)
        self.assertEqual([one.data for one in line.peek(500).sent], [b"z"])

    def test_with_places(self):
        self.assert_fits(1, b"a")
        self.assert_fits(0, b"ab")
        self.assert_does_not_fit(0, b"a")
        self.assert_does_not_fit(-1, b"ab")
        self.assert_fits(EDGE - 1, b"abc")
        self.assert_does_not_fit(EDGE, b"a")
        self.assert_does_not_fit(EDGE, b"", ACKS | END)
        self.assert_fits(EDGE - 1, b"", ACKS | END)
        self.assert_fits(1, b"", ACKS | END)
        self.assert_does_not_fit(0, b"", ACKS | END)
        self.assert_fits(0, b"a", ACKS | END)

    def test_without_places(self):
        self.assert_fits(1)
        self.assert_fits(EDGE)
        self.assert_fits(EDGE + 2)
        self.assert_does_not_fit(EDGE + 3)
        self.assert_does_not_fit(0)
        self.assert_does_not_fit(1 + 2 ** 31 - 1)
        self.assert_does_not_fit(1 + 2 ** 31)

    def test_begin_has_a_place(self):
        line = opened()
        # With a byte behind it its places are 0 and 1: it fits.
        line.write(110, b"z")
        self.assert_ack(line.hear(120, 0, 2, BEGIN | ACKS, FULL, data=b"a"), 2, 1)
        self.assert_ack(line.hear(120, EDGE - 1, 2, BEGIN | ACKS, FULL), 2, 1)
        self.assert_ack(line.hear(120, EDGE, 2, BEGIN | ACKS, FULL), 2, 1)
        self.assertEqual(line.read(120).told, [])
        self.assertEqual([one.data for one in line.peek(500).sent], [b"z"])

    def test_reset_that_does_not_fit_is_nothing(self):
        line = opened()
        for place in (0, -5, EDGE + 3, 2 ** 31 + 1):
            for flags in (RESET, RESET | ACKS):
                self.assert_nothing(line.hear(120, place, 1, flags))
        self.assert_nothing(line.hear(120, EDGE, 1, RESET, data=b"a"))
        self.assert_nothing(line.hear(120, 0, 1, RESET | BEGIN))
        self.assert_nothing(line.pass_on(130))

    def test_reset_that_fits(self):
        line = opened()
        for place in (2, EDGE, EDGE + 2):
            self.assert_ack(line.hear(120, place, 1, RESET), 1, 1)
        self.assert_nothing(line.pass_on(130))
        self.assert_nothing(line.hear(140, 1, 1, RESET))
        self.assert_nothing(line.pass_on(150), -6)
        self.assert_nothing(line.write(150, b"a"), -6)
        self.assert_nothing(line.close(150), -6)

    def test_reset_leaves_nothing_due(self):
        line = opened()
        line.write(110, b"z")
        line.hear(115, 1, 1, window=FULL, data=b"ab")
        self.assert_nothing(line.hear(120, 3, 1, RESET | ACKS))
        self.assert_nothing(line.peek(10 ** 7))
        self.assertEqual(line.read(130).told, list(b"ab"))
        self.assert_nothing(line.read(130), -6)

    def test_reset_with_data_at_wanted_ends_it(self):
        line = opened()
        self.assert_nothing(line.hear(120, 0, 1, RESET, data=b""))
        self.assert_ack(line.hear(120, 0, 1, RESET, data=b"abc"), 1, 1)
        self.assert_nothing(line.hear(120, 1, 1, RESET | BEGIN | END, data=b"abc"))
        self.assert_nothing(line.read(150), -6)

    def test_what_does_not_ack_is_nothing(self):
        line = opened()
        line.write(110, b"z")
        self.assert_nothing(line.hear(120, 1, 2, 0, FULL, data=b"abc"))
        self.assert_nothing(line.hear(120, 1, 2, END, FULL, data=b"abc"))
        self.assertEqual(line.read(130).told, [])
        self.assertEqual([one.data for one in line.peek(500).sent], [b"z"])

    def test_ack_above_top_gets_an_ack(self):
        line = opened()
        line.write(110, b"z")
        self.assert_ack(line.hear(120, 1, 3, window=FULL, data=b"abc"), 2, 1)
        self.assert_ack(line.hear(120, 1, 2 + 2 ** 31 - 1, window=FULL, data=b"abc"), 2, 1)
        self.assertEqual(line.read(130).told, [])
        self.assertEqual([one.data for one in line.peek(500).sent], [b"z"])

    def test_old_ack_brings_data(self):
        line = opened()
        line.write(110, b"z")
        line.hear(120, 1, 2, window=FULL)
        line.hear(130, 1, 1, window=FULL, data=b"a")
        line.hear(130, 2, 2 + 2 ** 31, window=FULL, data=b"b")
        self.assertEqual(line.read(140).told, list(b"ab"))


class Taken(SideTest):
    """Data and ends that come."""

    def test_in_order(self):
        line = opened()
        self.assert_nothing(line.hear(200, 1, 1, window=FULL, data=b"abc"))
        self.assert_ack(line.hear(201, 4, 1, window=FULL, data=b"de"), 1, 6, 1023)
        self.assertEqual(line.read(210).told, list(b"abcde"))

    def test_ack_is_due_after_40(self):
        line = opened()
        line.hear(200, 1, 1, window=FULL, data=b"abc")
        self.assert_due(line, 240)
        self.assert_ack(line.pass_on(245), 1, 4, 1023)
        self.assert_nothing(line.peek(10 ** 6))
        # The next one waits again.
        self.assert_nothing(line.hear(300, 4, 1, window=FULL, data=b"abc"))
        self.assert_due(line, 340)

    def test_what_is_said_owes_nothing(self):
        line = opened()
        line.hear(200, 1, 1, window=FULL, data=b"abc")
        self.assert_sent(line.write(210, b"x"), [(1, ACKS, b"x")], 1)
        self.assert_due(line, 510)
        self.assert_nothing(line.hear(220, 4, 1, window=FULL, data=b"de"))
        self.assert_due(line, 260)

    def test_twice_is_read_once(self):
        line = opened()
        line.hear(200, 1, 1, window=FULL, data=b"abc")
        self.assert_ack(line.hear(200, 1, 1, window=FULL, data=b"abc"), 1, 4, 1023)
        self.assert_ack(line.hear(200, 0, 1, window=FULL, data=b"?abc"), 1, 4, 1023)
        self.assert_nothing(line.hear(200, 2, 1, window=FULL, data=b"bcd"))
        self.assertEqual(line.read(210).told, list(b"abcd"))

    def test_nothing_new_is_acked_at_once(self):
        line = opened()
        line.hear(200, 1, 1, window=FULL, data=b"abc")
        line.pass_on(240)
        self.assert_ack(line.hear(250, 2, 1, window=FULL, data=b"bc"), 1, 4, 1023)

    def test_pieces_are_told_as_ranges(self):
        line = opened()
        self.assert_ack(line.hear(200, 11, 1, window=FULL, data=b"kl"), 1, 1, FULL, [(11, 13)])
        self.assert_ack(line.hear(200, 5, 1, window=FULL, data=b"e"), 1, 1, FULL, [(5, 6), (11, 13)])
        self.assert_ack(line.hear(200, 13, 1, window=FULL, data=b"m"), 1, 1, FULL, [(5, 6), (11, 14)])
        self.assert_ack(line.hear(200, 30, 1, window=FULL, data=b"x"), 1, 1, FULL, [(5, 6), (11, 14), (30, 31)])
        self.assert_ack(line.hear(200, 40, 1, window=FULL, data=b"y"), 1, 1, FULL, [(5, 6), (11, 14), (30, 31), (40, 41)])
        answer = line.hear(200, 20, 1, window=FULL, data=b"t")
        self.assert_ack(answer, 1, 1, FULL, [(5, 6), (11, 14), (20, 21), (30, 31)])
        answer = line.hear(200, 1, 1, window=FULL, data=b"abcd")
        self.assert_ack(answer, 1, 6, 1023, [(11, 14), (20, 21), (30, 31), (40, 41)])
        self.assertEqual(line.read(210).told, list(b"abcde"))
        line.hear(200, 6, 1, window=FULL, data=b"fghij")
        self.assertEqual(line.read(210).told, list(b"fghijklm"))

    def test_gap_filled_is_acked_at_once(self):
        line = opened()
        line.hear(200, 3, 1, window=FULL, data=b"cd")
        self.assert_ack(line.hear(200, 1, 1, window=FULL, data=b"ab"), 1, 5, 1023)
        self.assertEqual(line.read(210).told, list(b"abcd"))

    def test_what_is_there_stays(self):
        line = opened()
        line.hear(200, 3, 1, window=FULL, data=b"cd")
        line.hear(200, 2, 1, window=FULL, data=b"BCDE")
        line.hear(200, 1, 1, window=FULL, data=b"aXXXXf")
        self.assertEqual(line.read(210).told, list(b"aBcdEf"))

    def test_what_lies_beyond_the_edge_is_not_taken(self):
        line = opened()
        answer = line.hear(200, EDGE - 2, 1, window=FULL, data=b"abcd")
        self.assert_ack(answer, 1, 1, FULL, [(EDGE - 2, EDGE)])

    def test_end(self):
        line = opened()
        self.assert_ack(line.hear(200, 1, 1, ACKS | END, FULL, data=b"abc"), 1, 5, 1023)
        self.assertEqual(line.read(210).told, list(b"abc"))
        self.assert_nothing(line.read(210), -6)
        self.assert_ack(line.hear(220, 1, 1, ACKS | END, FULL, data=b"abc"), 1, 5, 1023)
        self.assert_nothing(line.read(230), -6)

    def test_end_alone(self):
        line = opened()
        self.assert_nothing(line.read(150))
        self.assert_ack(line.hear(200, 1, 1, ACKS | END, FULL), 1, 2, 1023)
        self.assert_nothing(line.read(210), -6)

    def test_end_ahead_of_what_lies_before_it(self):
        line = opened()
        self.assert_ack(line.hear(200, 4, 1, ACKS | END, FULL), 1, 1)
        self.assert_nothing(line.read(210))
        # That there are neither pieces nor an end leaves time: the end is known already.
        self.assert_nothing(line.hear(220, 1, 1, window=FULL, data=b"abc"))
        self.assert_ack(line.pass_on(260), 1, 5, 1023)
        self.assertEqual(line.read(270).told, list(b"abc"))
        self.assert_nothing(line.read(270), -6)

    def test_first_end_that_is_told_counts(self):
        line = opened()
        line.hear(200, 4, 1, ACKS | END, FULL)
        line.hear(200, 2, 1, ACKS | END, FULL)
        line.hear(200, 1, 1, window=FULL, data=b"a")
        self.assertEqual(line.read(210).told, [97])
        self.assert_nothing(line.read(210))
        line.hear(220, 2, 1, window=FULL, data=b"bc")
        self.assertEqual(line.read(230).told, list(b"bc"))
        self.assert_nothing(line.read(230), -6)

    def test_nothing_is_taken_once_the_end_has_come(self):
        line = opened()
        line.hear(200, 1, 1, ACKS | END, FULL, data=b"abc")
        self.assert_ack(line.hear(200, 5, 1, window=FULL, data=b"more"), 1, 5, 1023)
        self.assert_ack(line.hear(200, 9, 1, ACKS | END, FULL), 1, 5, 1023)
        self.assertEqual(line.read(210).told, list(b"abc"))
        self.assert_nothing(line.read(210), -6)

    def test_end_above_the_edge_is_not_known(self):
        line = opened()
        answer = line.hear(200, EDGE - 1, 1, ACKS | END, FULL, data=b"ab")
        self.assert_ack(answer, 1, 1, FULL, [(EDGE - 1, EDGE)])
        for place in range(1, EDGE - 1, 1400):
            line.hear(200, place, 1, window=FULL, data=bytes(min(1400, EDGE - 1 - place)))
        self.assertEqual(line.read(300).number, 65536)
        # Another end is told now, so that's where it is.
        line.hear(310, EDGE, 1, ACKS | END, FULL)
        self.assert_nothing(line.read(320), -6)

    def test_wanted_above_the_edge_leaves_no_window(self):
        # 65536 bytes unread, and the end right at the edge.
        line = opened()
        place = 1
        while place < EDGE:
            size = min(1400, EDGE - place)
            flags = ACKS | END if place + size == EDGE else ACKS
            answer = line.hear(200, place, 1, flags, FULL, data=bytes(size))
            place += size
        self.assert_ack(answer, 1, EDGE + 1, 0)
        self.assertEqual(len(line.read(300).told), 65536)
        self.assert_nothing(line.read(300), -6)

    def test_window_is_cut(self):
        line = opened()
        line.hear(200, 1, 1, window=FULL, data=bytes(64))
        self.assert_ack(line.pass_on(240), 1, 65, 1023)
        line.hear(300, 65, 1, window=FULL, data=bytes(63))
        self.assert_ack(line.pass_on(340), 1, 128, 1022)
        line.hear(400, 128, 1, window=FULL, data=bytes(1))
        self.assert_ack(line.pass_on(440), 1, 129, 1022)

    def test_full_buffer_takes_no_more(self):
        line = opened()
        for place in range(1, EDGE, 1024):
            answer = line.hear(200, place, 1, window=FULL, data=bytes(1024))
        self.assert_ack(answer, 1, EDGE, 0)
        self.assert_ack(line.hear(300, EDGE, 1, window=FULL, data=b"x"), 1, EDGE, 0)
        self.assert_ack(line.hear(300, EDGE - 1, 1, window=FULL, data=b"xy"), 1, EDGE, 0)
        answer = line.read(310)
        self.assertEqual(len(answer.told), 65536)
        self.assertEqual([heard(one) for one in answer.sent], [Heard(1, EDGE, ACKS, 1024, [], b"")])
        line.hear(320, EDGE, 1, window=FULL, data=b"x")
        self.assertEqual(line.read(330).told, [120])


if __name__ == "__main__":
    unittest.main()
