"""Promises 7, 8 and 9 (reset, tick, keep)."""

import unittest

from tests.helper import (ACKS, BASE, BEGIN, END, FULL, ME, MINE, OTHER_BASE, RESET, THEIRS, THEM, Heard, Line, Seen,
                          SideTest, answered, heard, lines_by_phase, opened, packed, text)

TOP_TIME = 2 ** 62
WRONG_TIMES = (TOP_TIME + 1, 2 ** 64 - 1)
MOST_KEPT = 2 ** 31


class Reset(SideTest):
    """Promise 7."""

    def test_refusals(self):
        for phase, line in lines_by_phase().items():
            before = line.told()
            for now in WRONG_TIMES:
                self.assert_nothing(line.reset(now), -1)
            self.assertEqual(line.told(), before)
            self.assertEqual(line.reset(200).number, -4 if phase in (0, 5, 6) else 0)

    def test_edges_of_time(self):
        for now in (0, TOP_TIME):
            self.assert_nothing(Line().reset(now), -4)
            line = Line()
            line.wait()
            self.assert_nothing(line.reset(now))

    def test_refused_reset_changes_nothing(self):
        for phase in (0, 5, 6):
            line = lines_by_phase()[phase]
            before = (line.told(), line.due())
            self.assert_nothing(line.reset(200), -4)
            self.assertEqual((line.told(), line.due()), before)

    def test_nothing_is_said_before_the_other_is_known(self):
        for phase in (1, 2):
            line = lines_by_phase()[phase]
            self.assert_nothing(line.reset(200))
            self.assertEqual((line.told().phase, line.told().why), (6, 4))

    def test_reset_is_said(self):
        for line in (answered(), opened()):
            answer = line.reset(200)
            expected = Seen(THEM, (MINE, THEIRS), BASE + 1, OTHER_BASE + 1, RESET | ACKS, 1024, [], b"")
            self.assertEqual((answer.number, answer.sent), (0, [expected]))
            self.assertEqual((line.told().phase, line.told().why), (6, 4))

    def test_from_top_on(self):
        line = opened()
        line.write(110, text(1, 5600))
        line.hear(150, 1, 1401)
        self.assertEqual((line.told().first, line.told().top), (1401, 5601))
        self.assert_sent(line.reset(160), [(5601, RESET | ACKS, b"")])

    def test_from_top_on_when_next_is_below(self):
        line = opened()
        line.write(110, text(1, 5000))
        line.tick(410)
        self.assertEqual((line.told().next, line.told().top), (1401, 4201))
        self.assert_sent(line.reset(420), [(4201, RESET | ACKS, b"")])

    def test_what_waits_for_room_is_not_sent(self):
        line = opened(window=0)
        line.write(110, b"abc")
        self.assert_sent(line.reset(120), [(1, RESET | ACKS, b"")])

    def test_while_it_is_closing(self):
        line = opened()
        line.close(110)
        self.assert_sent(line.reset(120), [(2, RESET | ACKS, b"")])
        self.assertEqual(line.told().why, 4)

    def test_tells_what_came(self):
        line = opened()
        line.hear(110, 1, 1, data=b"abc")
        line.hear(120, 10, 1, data=b"de")
        line.hear(120, 20, 1, data=b"f")
        answer = line.reset(130)
        ranges = [(10, 12), (20, 21)]
        self.assertEqual([heard(one) for one in answer.sent], [Heard(1, 4, RESET | ACKS, 1023, ranges, b"")])

    def test_edge_is_told_anew(self):
        line = opened()
        line.hear(110, 1, 1, ACKS | END, data=text(1, 1400))
        # Behind the end read says nothing.
        self.assertEqual(line.read(120).sent, [])
        self.assertEqual(line.told().edge, 65537)
        self.assertEqual(heard(line.reset(130).sent[0]).window, 1024)
        self.assertEqual(line.told().edge, 1402 + 65536)

    def test_nothing_is_due_timed_or_owed(self):
        line = opened()
        line.keep(100, 500)
        line.write(110, b"abc")
        line.hear(120, 1, 1, data=b"de")
        self.assertEqual(line.due(), 160)
        self.assert_sent(line.reset(130), [(4, RESET | ACKS, b"")])
        self.assertIsNone(line.due())
        self.assert_nothing(line.tick(10 ** 9))
        self.assertEqual(line.told().why, 4)

    def test_what_came_can_be_read(self):
        line = opened()
        line.hear(110, 1, 1, data=b"abc")
        line.reset(120)
        answer = line.read(130, 2)
        self.assertEqual((answer.number, answer.told, answer.sent), (2, [97, 98], []))
        self.assertEqual(line.read(130, 2).told, [99])
        self.assert_nothing(line.read(130, 2), -6)

    def test_over_for_other_calls(self):
        line = opened()
        line.reset(120)
        self.assert_nothing(line.write(130, b"a"), -6)
        self.assert_nothing(line.close(130), -6)
        self.assert_nothing(line.reset(130), -4)
        self.assert_nothing(line.hear(130, 1, 1), -4)
        self.assert_nothing(line.tick(130))
        self.assert_nothing(line.keep(130, 1))

    def test_numbers_stay(self):
        line = opened()
        line.write(110, text(1, 5000))
        line.hear(150, 1, 1401, data=b"abc")
        before = line.told()
        line.reset(160)
        self.assertEqual(line.told(), before._replace(phase=6, why=4))

    def test_time_goes_on_first(self):
        line = Line()
        line.begin()
        self.assert_sent(line.reset(1000), [(0, BEGIN, b"")])
        line = opened()
        line.write(110, b"abc")
        self.assert_sent(line.reset(410), [(1, ACKS, b"abc"), (4, RESET | ACKS, b"")])

    def test_time_goes_on_where_a_refusal_follows(self):
        line = lines_by_phase()[5]
        self.assert_nothing(line.reset(60119), -4)
        self.assertEqual(line.told().phase, 5)
        self.assert_nothing(line.reset(60120), -4)
        self.assertEqual((line.told().phase, line.told().why), (6, 1))

    def test_too_late(self):
        line = opened()
        line.keep(100, 1)
        for now in (101, 10101, 20101, 30101, 40101):
            line.tick(now)
        self.assert_nothing(line.reset(50101), -4)
        self.assertEqual(line.told().why, 3)

    def test_refused_reset_keeps_the_time(self):
        line = Line()
        line.reset(5000)
        line.begin(now=10)
        self.assertEqual(line.due(), 6000)
        line = Line()
        line.reset(TOP_TIME + 1)
        line.begin(now=10)
        self.assertEqual(line.due(), 1010)

    def test_begins_again(self):
        for phase in (1, 2, 3, 4):
            line = lines_by_phase()[phase]
            line.reset(200)
            self.assert_sent(line.begin(now=300), [(0, BEGIN, b"")])
            self.assertEqual((line.told().phase, line.told().why), (2, 0))
            line.reset(310)
            self.assert_nothing(line.wait(now=320))
            self.assertEqual((line.told().phase, line.told().why), (1, 0))

    def test_other_is_over_by_it(self):
        line = opened()
        line.write(110, b"abc")
        sent = line.reset(120).sent[0]
        other = Line(THEM)
        other.begin(THEM, THEIRS, ME, MINE, OTHER_BASE)
        other.came(ME, 50, self.raw_of(Seen(THEM, (MINE, THEIRS), BASE, OTHER_BASE + 1, BEGIN | ACKS, FULL, [], b"")))
        # Ahead of the bytes it isn't at wanted: it gets an ack and ends nothing.
        self.assertEqual(len(other.came(ME, 60, self.raw_of(sent)).sent), 1)
        self.assertEqual(other.told().phase, 4)
        other.came(ME, 70, self.raw_of(Seen(THEM, (MINE, THEIRS), BASE + 1, OTHER_BASE + 1, ACKS, FULL, [], b"abc")))
        self.assertEqual(other.came(ME, 80, self.raw_of(sent)).sent, [])
        self.assertEqual((other.told().phase, other.told().why), (6, 2))

    def raw_of(self, seen):
        return packed(ME, seen.to, seen.ports, *seen[2:])


class Tick(SideTest):
    """Promise 8."""

    def test_every_phase(self):
        for phase, line in lines_by_phase().items():
            before = line.told()
            for now in WRONG_TIMES:
                self.assert_nothing(line.tick(now), -1)
            self.assert_nothing(line.tick(0))
            self.assert_nothing(line.tick(200))
            self.assertEqual(line.told(), before)
            self.assertEqual(line.tick(TOP_TIME).number, 0)

    def test_begin(self):
        line = Line()
        line.begin()
        self.assert_nothing(line.tick(999))
        self.assert_sent(line.tick(1000), [(0, BEGIN, b"")])
        self.assert_nothing(line.tick(1000))
        self.assert_nothing(line.tick(2999))
        self.assert_sent(line.tick(3001), [(0, BEGIN, b"")])
        self.assertEqual((line.due(), line.told().wait), (7001, 4000))

    def test_ack(self):
        for now in (150, 151, 10 ** 6):
            line = opened()
            line.hear(110, 1, 1, data=b"abc")
            self.assert_nothing(line.tick(149))
            self.assert_ack(line.tick(now), 1, 4, 1023)
            self.assert_nothing(line.tick(now))

    def test_bytes(self):
        for now in (410, 411, 10 ** 6):
            line = opened()
            line.write(110, b"abc")
            self.assert_nothing(line.tick(409))
            self.assert_sent(line.tick(now), [(1, ACKS, b"abc")])
            self.assert_nothing(line.tick(now))

    def test_lingering(self):
        for now in (60120, 60121, TOP_TIME):
            line = lines_by_phase()[5]
            self.assert_nothing(line.tick(60119))
            self.assertEqual(line.told().phase, 5)
            self.assert_nothing(line.tick(now))
            self.assertEqual((line.told().phase, line.told().why), (6, 1))

    def test_asking(self):
        for now in (5200, 5201, 10 ** 6):
            line = opened()
            line.keep(200, 5000)
            self.assert_nothing(line.tick(5199))
            self.assert_sent(line.tick(now), [(0, ACKS, b"")])

    def test_never_back(self):
        line = Line()
        line.begin()
        line.tick(900)
        self.assert_nothing(line.tick(0))
        line.hear(10, 0, 1, BEGIN | ACKS, FULL)
        # Measured from 0 to 900.
        self.assertEqual(line.told().wait, 2700)
        line.write(20, b"a")
        self.assertEqual(line.due(), 3600)

    def test_time_of_no_side(self):
        line = Line()
        self.assert_nothing(line.tick(5000))
        line.begin(now=100)
        self.assertEqual(line.due(), 6000)

    def test_wrong_time_is_not_gone_on_to(self):
        line = Line()
        line.begin()
        self.assert_nothing(line.tick(TOP_TIME + 1), -1)
        self.assertEqual(line.due(), 1000)
        self.assert_nothing(line.tick(999))


class Keep(SideTest):
    """Promise 9, and askings."""

    def kept(self, time, now=100):
        line = opened()
        self.assert_nothing(line.keep(now, time))
        return line

    def test_every_phase(self):
        for phase, line in lines_by_phase().items():
            before = line.told()
            for now in WRONG_TIMES:
                self.assert_nothing(line.keep(now, 0), -1)
            for time in (MOST_KEPT + 1, 2 ** 64 - 1):
                self.assert_nothing(line.keep(200, time), -1)
            for time in (0, 1, MOST_KEPT):
                self.assert_nothing(line.keep(200, time))
            self.assertEqual(line.told(), before)

    def test_edges_of_arguments(self):
        line = self.kept(MOST_KEPT)
        self.assertEqual(line.due(), 100 + MOST_KEPT)
        self.assert_nothing(line.tick(99 + MOST_KEPT))
        self.assert_sent(line.tick(100 + MOST_KEPT), [(0, ACKS, b"")])
        line = self.kept(1)
        self.assertEqual(line.due(), 101)
        self.assert_nothing(Line().keep(TOP_TIME, MOST_KEPT))

    def test_wrong_argument_changes_nothing(self):
        line = self.kept(5000)
        self.assert_nothing(line.keep(6000, MOST_KEPT + 1), -1)
        self.assert_nothing(line.keep(TOP_TIME + 1, 7), -1)
        self.assertEqual(line.due(), 5100)
        self.assert_nothing(line.tick(5099))

    def test_not_kept_up_at_first(self):
        line = opened()
        self.assertIsNone(line.due())
        self.assert_nothing(line.tick(10 ** 8))

    def test_zero_is_not_kept_up(self):
        line = self.kept(5000)
        line.tick(5100)
        self.assert_nothing(line.keep(5200, 0))
        self.assertIsNone(line.due())
        self.assert_nothing(line.tick(10 ** 8))
        self.assertEqual(line.told().phase, 4)

    def test_five_askings_and_the_sixth(self):
        line = self.kept(5000)
        for now in (5100, 15100, 25100, 35100, 45100):
            self.assertEqual(line.due(), now)
            self.assert_nothing(line.tick(now - 1))
            self.assertEqual([heard(one) for one in line.tick(now).sent], [Heard(0, 1, ACKS, FULL, [], b"")])
            self.assert_nothing(line.tick(now))
        self.assertEqual(line.due(), 55100)
        self.assert_nothing(line.tick(55099))
        self.assertEqual(line.told().phase, 4)
        self.assert_nothing(line.tick(55100))
        self.assertEqual((line.told().phase, line.told().why), (6, 3))
        self.assertIsNone(line.due())

    def test_what_fits_between_two_askings(self):
        line = self.kept(5000)
        line.tick(5100)
        line.tick(15100)
        self.assert_nothing(line.hear(15200, 1, 1))
        for now in (20200, 30200, 40200, 50200, 60200):
            self.assertEqual(line.due(), now)
            self.assert_sent(line.tick(now), [(0, ACKS, b"")])
        self.assert_nothing(line.tick(70200))
        self.assertEqual(line.told().why, 3)

    def test_what_is_heard(self):
        """All that fits: also what gets but an ack, or nothing at all."""
        for flags, place, acked in ((BEGIN, 1, None), (0, 1, None), (RESET, 2, 1), (ACKS, 1, 9), (ACKS, 1, 0)):
            line = self.kept(5000)
            line.hear(4000, place, acked, flags)
            self.assertEqual((line.told().phase, line.due()), (4, 9000))

    def test_what_is_not_heard(self):
        line = self.kept(5000)
        for flags, place in ((ACKS, 0), (BEGIN, 0), (RESET, 0), (ACKS, 65540)):
            line.hear(4000, place, 1, flags)
            self.assertEqual(line.due(), 5100)
        line.came(THEM, 4000, [1])
        self.assertEqual(line.due(), 5100)

    def test_other_calls_are_not_heard(self):
        line = self.kept(5000)
        line.tick(1000)
        line.read(1000)
        line.write(1000, b"")
        self.assertEqual(line.due(), 5100)

    def test_keep_is_as_if_heard(self):
        line = self.kept(5000)
        line.tick(5100)
        line.tick(15100)
        self.assertEqual(line.due(), 25100)
        self.assert_nothing(line.keep(16000, 7000))
        self.assertEqual(line.due(), 23000)
        for now in (23000, 33000, 43000, 53000, 63000):
            self.assert_sent(line.tick(now), [(0, ACKS, b"")])
        self.assert_nothing(line.tick(73000))
        self.assertEqual(line.told().why, 3)

    def test_time_goes_on_first(self):
        line = self.kept(5000)
        self.assert_sent(line.keep(5100, 3000), [(0, ACKS, b"")])
        self.assertEqual(line.due(), 8100)

    def test_time_does_not_go_back(self):
        line = opened()
        line.tick(3000)
        line.keep(200, 5000)
        self.assertEqual(line.due(), 8000)

    def test_once_a_call(self):
        line = self.kept(5000)
        for count in range(5):
            self.assertEqual(line.due(), 5100 + 10000 * count)
            self.assert_sent(line.tick(10 ** 7), [(0, ACKS, b"")])
        self.assert_nothing(line.tick(10 ** 7))
        self.assertEqual(line.told().why, 3)

    def test_with_every_call_that_has_a_time(self):
        asking = (0, ACKS, b"")
        self.assert_sent(self.kept(50).write(150, b"abc"), [asking, (1, ACKS, b"abc")], 3)
        self.assert_sent(self.kept(50).read(150), [asking])
        self.assert_sent(self.kept(50).close(150), [asking, (1, ACKS | END, b"")])
        self.assert_sent(self.kept(50).reset(150), [asking, (1, RESET | ACKS, b"")])
        self.assert_sent(self.kept(50).came(THEM, 150, [7]), [asking], -3)
        self.assert_sent(self.kept(50).hear(150, 1, 1), [asking])
        self.assert_sent(self.kept(50).keep(150, 0), [asking])

    def test_not_with_a_refused_begin(self):
        line = self.kept(50)
        self.assert_nothing(line.begin(now=150), -4)
        self.assert_nothing(line.wait(now=150), -4)
        self.assertEqual(line.due(), 150)

    def test_from_the_place_before_top(self):
        line = self.kept(5000)
        line.write(200, text(1, 9))
        line.hear(300, 1, 10)
        self.assertEqual(line.due(), 5300)
        self.assert_sent(line.tick(5300), [(9, ACKS, b"")])

    def test_asking_tells_what_came(self):
        line = self.kept(50)
        line.hear(110, 1, 1, data=b"abc")
        line.hear(112, 9, 1, data=b"d")
        self.assertEqual([heard(one) for one in line.tick(162).sent], [Heard(0, 4, ACKS, 1023, [(9, 10)], b"")])

    def test_ack_that_is_due_is_said_ahead(self):
        line = self.kept(40)
        line.hear(110, 1, 1, data=b"abc")
        self.assert_sent(line.tick(150), [(1, ACKS, b""), (0, ACKS, b"")])

    def test_asking_is_an_ack_that_was_owed(self):
        line = self.kept(20)
        line.hear(110, 1, 1, data=b"abc")
        self.assert_sent(line.tick(130), [(0, ACKS, b"")])
        self.assert_nothing(line.tick(160))

    def test_not_while_something_is_on_its_way(self):
        line = self.kept(5000)
        line.write(5000, b"abc")
        self.assertEqual(line.due(), 5300)
        self.assert_sent(line.tick(5300), [(1, ACKS, b"abc")])
        self.assertEqual(line.due(), 5900)
        line.hear(5400, 1, 4)
        self.assertEqual(line.due(), 10400)

    def test_while_bytes_wait_for_room(self):
        line = opened(window=0)
        line.write(100, b"abc")
        line.keep(100, 250)
        self.assert_sent(line.tick(350), [(0, ACKS, b"")])
        # The byte that asks for room is on its way then: no asking.
        self.assert_sent(line.tick(400), [(1, ACKS, b"a")])
        self.assertEqual(line.due(), 1000)

    def test_what_is_due_and_an_asking_at_once(self):
        line = opened(window=0)
        line.write(100, b"abc")
        line.keep(100, 300)
        self.assert_sent(line.tick(400), [(1, ACKS, b"a")])

    def test_in_phase_4_alone(self):
        for phase in (0, 1, 2, 3, 5, 6):
            line = lines_by_phase()[phase]
            before = line.due()
            line.keep(130, 5)
            self.assertEqual(line.due(), before)
            self.assert_nothing(line.tick(500))

    def test_kept_up_before_it_is_open(self):
        line = Line()
        line.begin()
        line.keep(10, 5000)
        line.hear(100, 0, 1, BEGIN | ACKS, FULL)
        self.assertEqual(line.due(), 5100)
        line = Line()
        line.wait()
        line.keep(10, 5000)
        line.hear(100, 0, None, BEGIN, FULL)
        self.assertEqual(line.due(), 1100)
        line.hear(200, 1, 1)
        self.assertEqual(line.due(), 5200)

    def test_heard_when_the_begin_came(self):
        line = answered()
        line.hear(50, 1, 1)
        line.keep(60, 5000)
        self.assertEqual(line.due(), 5060)

    def test_new_side_is_not_kept_up(self):
        line = Line()
        line.keep(0, 50)
        line.begin()
        line.hear(100, 0, 1, BEGIN | ACKS, FULL)
        self.assertIsNone(line.due())
        line = self.kept(50)
        line.reset(110)
        line.begin(now=120)
        line.hear(130, 0, 1, BEGIN | ACKS, FULL)
        self.assertEqual(line.told().phase, 4)
        self.assertIsNone(line.due())

    def test_over_is_not_kept_up(self):
        line = self.kept(50)
        line.hear(110, 1, 1, RESET)
        self.assertIsNone(line.due())
        line.keep(120, 50)
        self.assert_nothing(line.tick(10 ** 8))
        self.assertEqual((line.told().phase, line.told().why), (6, 2))


if __name__ == "__main__":
    unittest.main()
