"""The form of a segment, its sum, and bytes that are none (-3)."""

import random
import unittest

from streamside.places import behind_ranges, number_of, place_near, up_to_range, with_piece, with_range
from streamside.segment import Segment, read_segment, sum_of, written_out
from tests.helper import (ACKS, BASE, BEGIN, END, ME, MINE, OTHER_BASE, THEIRS, THEM, Line, SideTest, answered,
                          checksum, from_other, heard, opened, packed, text)

PORTS = (THEIRS, MINE)


class Form(SideTest):
    def test_fields_of_a_written_segment(self):
        segment = Segment(0x0102, 0x0304, 0x05060708, 0x0A, [1, 2, 3])
        segment.acked = 0x090A0B0C
        segment.window = 0x0D0E
        segment.ranges = [(0x11121314, 0x15161718)]
        raw = written_out(segment, 1, 2)
        self.assertEqual(raw[:16], [1, 2, 3, 4, 5, 6, 7, 8, 9, 10, 11, 12, 10, 1, 13, 14])
        self.assertEqual(raw[18:], [0, 0, 17, 18, 19, 20, 21, 22, 23, 24, 1, 2, 3])
        self.assertEqual(raw[16] * 256 + raw[17], checksum(1, 2, raw[:16] + [0, 0] + raw[18:]))

    def test_written_segments_are_read_again(self):
        chance = random.Random(1)
        for _ in range(200):
            ranges = [(chance.randrange(2 ** 32), chance.randrange(2 ** 32)) for _ in range(chance.randrange(5))]
            data = [chance.randrange(256) for _ in range(chance.choice([0, 1, 2, 3, 1399, 1400]))]
            segment = Segment(chance.randrange(65536), 7, chance.randrange(2 ** 32), chance.randrange(16), data)
            segment.acked = chance.randrange(2 ** 32)
            segment.window = chance.randrange(65536)
            segment.ranges = ranges
            sender = chance.randrange(1, 2 ** 32 - 1)
            raw = written_out(segment, sender, 9)
            again = read_segment(raw, sender, 9)
            self.assertEqual(vars(again), vars(segment))
            self.assertEqual(raw, packed(sender, 9, (segment.from_port, 7), segment.number, segment.acked,
                                         segment.flags, segment.window, ranges, bytes(data)))

    def test_sum_by_hand(self):
        # 1 + 2 + 3 + 4 + 0x0105 + 0x0200 = 0x030F
        self.assertEqual(sum_of(1, 2, [1, 5, 2, 0]), 0xFFFF - 0x030F)

    def test_odd_byte_has_a_zero_behind_it(self):
        self.assertEqual(sum_of(1, 2, [1, 5, 2]), 0xFFFF - 0x030E)

    def test_what_is_carried_is_added_again(self):
        # 0xFFFF + 0xFFFF + 3 + 4 + 0xFFFF + 0xFFFF = 0x40003, then 3 + 4
        self.assertEqual(sum_of(0xFFFFFFFF, 0, [255, 255, 255, 255]), 0xFFFF - 7)
        # 2 * 0xFFFF + 3 + 2 + 0xFFFC = 0x2FFFF, then 0xFFFF + 2 = 0x10001, then 2
        self.assertEqual(sum_of(0xFFFFFFFF, 0, [255, 252]), 0xFFFF - 2)

    def test_sum_is_over_both_addresses_whole(self):
        low = sum_of(1, 2, [0, 0])
        self.assertEqual(sum_of(0x00010001, 2, [0, 0]), low - 1)
        self.assertEqual(sum_of(1, 0x00010002, [0, 0]), low - 1)

    def test_sum_is_65535_for_0(self):
        # 1 + 2 + 3 + 2 leave 0xFFF7.
        self.assertEqual(sum_of(1, 2, [0xFF, 0xF7]), 0xFFFF)
        self.assertEqual(sum_of(1, 2, [0xFF, 0xF6]), 1)
        # 0x10000 is 1, with what's carried.
        self.assertEqual(sum_of(1, 2, [0xFF, 0xF8]), 0xFFFE)

    def test_sum_is_over_how_many_bytes(self):
        self.assertEqual(sum_of(1, 2, [0] * 300), sum_of(1, 2, [0] * 20) - 280)


class NoSegment(SideTest):
    def refused(self, raw):
        line = Line()
        line.wait()
        self.assert_nothing(line.came(THEM, 0, raw), -3)

    def begin(self, **others):
        return packed(THEM, ME, PORTS, OTHER_BASE, 0, BEGIN, **others)

    def taken(self, raw):
        line = Line()
        line.wait()
        self.assert_sent(line.came(THEM, 0, raw), [(0, BEGIN | ACKS, b"")])

    def test_too_short(self):
        self.refused([])
        self.refused([0])
        whole = self.begin()
        self.refused(whole[:19])
        for size in range(20):
            self.refused([0] * size)
        self.taken(whole)

    def test_unknown_flags(self):
        self.refused(packed(THEM, ME, PORTS, OTHER_BASE, 0, 16))
        self.refused(packed(THEM, ME, PORTS, OTHER_BASE, 0, 16 | BEGIN))
        self.refused(packed(THEM, ME, PORTS, OTHER_BASE, 0, 128 | BEGIN))

    def test_how_many_ranges(self):
        pairs = [(BASE + at, BASE + at + 1) for at in range(5)]
        self.refused(self.begin(ranges=pairs))
        self.taken(self.begin(ranges=pairs[:4]))
        self.refused(self.begin(count=5, data=bytes(60)))

    def test_ranges_that_are_not_all_there(self):
        self.refused(self.begin(count=1))
        self.refused(self.begin(count=1, data=bytes(7)))
        self.taken(self.begin(count=1, data=bytes(8)))
        self.refused(self.begin(count=4, data=bytes(31)))
        self.taken(self.begin(count=4, data=bytes(32)))

    def test_last_two_bytes_of_the_head_are_0(self):
        self.refused(self.begin(tail=1))
        self.refused(self.begin(tail=256))

    def test_how_much_data(self):
        self.refused(self.begin(data=bytes(1401)))
        self.taken(self.begin(data=bytes(1400)))
        pairs = [(BASE, BASE + 1)] * 4
        self.taken(self.begin(ranges=pairs, data=bytes(1400)))
        self.refused(self.begin(ranges=pairs, data=bytes(1401)))
        self.refused(self.begin(data=bytes(15000)))

    def test_any_changed_bit(self):
        whole = from_other(1, 1, ACKS | END, 77, [(2, 3)], b"abc")
        for at in range(len(whole)):
            for bit in range(8):
                raw = list(whole)
                raw[at] ^= 1 << bit
                self.assertIsNone(read_segment(raw, THEM, ME))
        self.assertIsNotNone(read_segment(whole, THEM, ME))

    def test_sum_of_other_addresses(self):
        whole = self.begin()
        self.assertIsNone(read_segment(whole, THEM + 1, ME))
        self.assertIsNone(read_segment(whole, THEM, ME + 1))
        self.refused(packed(THEM + 1, ME, PORTS, OTHER_BASE, 0, BEGIN))
        self.refused(packed(THEM, ME + 1, PORTS, OTHER_BASE, 0, BEGIN))

    def test_sum_of_0_is_no_sum(self):
        # A number that brings the sum to 65535.
        bare = packed(THEM, ME, PORTS, 0, 0, BEGIN)
        whole = packed(THEM, ME, PORTS, bare[16] * 256 + bare[17], 0, BEGIN)
        self.assertEqual(whole[16:18], [255, 255])
        self.refused(whole[:16] + [0, 0] + whole[18:])
        line = Line()
        line.wait()
        self.assertEqual(len(line.came(THEM, 0, whole).sent), 1)

    def test_begin_sent_with_a_sum_of_65535(self):
        line = Line(1)
        seen = line.begin(1, 1, 2, 2, 64226, 0).sent
        self.assertEqual(len(seen), 1)

    def test_no_segment_changes_nothing(self):
        line = opened()
        self.assert_nothing(line.came(THEM, 150, [1, 2, 3]), -3)
        self.assert_nothing(line.hear(150, 1, 1, data=b"ab"))
        self.assertEqual(line.read(160).told, list(b"ab"))


class Places(unittest.TestCase):
    def test_number_of_a_place(self):
        self.assertEqual(number_of(2 ** 32 - 1, 0), 2 ** 32 - 1)
        self.assertEqual(number_of(2 ** 32 - 1, 1), 0)
        self.assertEqual(number_of(5, 2 ** 32 + 7), 12)

    def test_nearest_place(self):
        half = 2 ** 31
        self.assertEqual(place_near(7, 7, 0), 0)
        self.assertEqual(place_near(half - 1, 0, 0), half - 1)
        self.assertIsNone(place_near(half, 0, 0))
        self.assertIsNone(place_near(6, 7, 0))
        self.assertEqual(place_near(half, 0, half), half)
        self.assertEqual(place_near(0, 0, half), 0)
        self.assertEqual(place_near(1, 0, half), 1)
        self.assertEqual(place_near(2 ** 32 - 1, 0, half), 2 ** 32 - 1)
        self.assertEqual(place_near(3, 2 ** 32 - 2, 1), 5)
        self.assertEqual(place_near(0, 0, 2 ** 32 + 5), 2 ** 32)
        self.assertEqual(place_near(9, 10, 2 ** 32), 2 ** 32 - 1)

    def test_ranges_that_touch_are_one(self):
        ranges = with_range(with_range([], 10, 20), 30, 40)
        self.assertEqual(ranges, [(10, 20), (30, 40)])
        self.assertEqual(with_range(ranges, 20, 22), [(10, 22), (30, 40)])
        self.assertEqual(with_range(ranges, 28, 30), [(10, 20), (28, 40)])
        self.assertEqual(with_range(ranges, 21, 29), [(10, 20), (21, 29), (30, 40)])
        self.assertEqual(with_range(ranges, 15, 35), [(10, 40)])
        self.assertEqual(with_range(ranges, 12, 15), ranges)
        self.assertEqual(with_range(ranges, 5, 50), [(5, 50)])
        self.assertEqual(with_range(ranges, 1, 2), [(1, 2), (10, 20), (30, 40)])
        self.assertEqual(with_range(ranges, 50, 60), [(10, 20), (30, 40), (50, 60)])

    def test_behind_ranges(self):
        ranges = [(10, 20), (30, 40)]
        got = [behind_ranges(ranges, place) for place in (9, 10, 19, 20, 29, 35, 40)]
        self.assertEqual(got, [9, 20, 20, 20, 29, 40, 40])

    def test_up_to_the_next_range(self):
        ranges = [(10, 20), (30, 40)]
        got = [up_to_range(ranges, place, 8) for place in (0, 5, 20, 25, 40)]
        self.assertEqual(got, [8, 5, 8, 5, 8])

    def test_pieces_that_touch_are_one_and_what_is_there_stays(self):
        chance = random.Random(2)
        for _ in range(300):
            pieces = []
            there = {}
            for _ in range(12):
                place = chance.randrange(40)
                data = [chance.randrange(256) for _ in range(chance.randrange(1, 9))]
                pieces = with_piece(pieces, place, data)
                for at, one in enumerate(data):
                    there.setdefault(place + at, one)
                flat = [(start + at, one) for start, piece in pieces for at, one in enumerate(piece)]
                self.assertEqual(flat, sorted(there.items()))
                for before, after in zip(pieces, pieces[1:]):
                    self.assertLess(before[0] + len(before[1]), after[0])


class Numbers(SideTest):
    """Numbers go round at 2^32; places go on."""

    def test_numbers_go_round(self):
        for base, other in ((2 ** 32 - 1, 2 ** 32 - 1), (2 ** 32 - 2, 2 ** 32 - 700), (0, 2 ** 32 - 3), (2 ** 32 - 5, 0)):
            line = Line()
            self.assertEqual(line.begin(base=base).sent[0].number, base)
            seen = line.came(THEM, 50, packed(THEM, ME, PORTS, other, base + 1, BEGIN | ACKS)).sent
            self.assertEqual((seen[0].number, seen[0].acked), ((base + 1) % 2 ** 32, (other + 1) % 2 ** 32))
            seen = line.write(60, text(1, 2000)).sent
            self.assertEqual([one.number for one in seen], [(base + 1) % 2 ** 32])
            raw = packed(THEM, ME, PORTS, other + 1, base + 1401, ACKS, data=text(1, 1400))
            seen = line.came(THEM, 70, raw).sent
            self.assertEqual([(one.number, one.acked) for one in seen],
                             [((base + 1401) % 2 ** 32, (other + 1401) % 2 ** 32)])
            raw = packed(THEM, ME, PORTS, other + 1411, base + 2001, ACKS, data=b"later")
            seen = line.came(THEM, 80, raw).sent
            self.assertEqual(seen[0].ranges, [((other + 1411) % 2 ** 32, (other + 1416) % 2 ** 32)])
            self.assertEqual(line.read(90).told, list(text(1, 1400)))

    def test_reset_to_a_refused_number_is_what_was_acked(self):
        line = Line()
        line.wait()
        answer = line.came(THEM, 0, packed(THEM, ME, PORTS, 7, 2 ** 32 - 1, ACKS))
        self.assert_reset(answer, 2 ** 32 - 1)

    def test_place_below_the_begin_is_none(self):
        line = answered()
        answer = line.came(THEM, 5, packed(THEM, ME, PORTS, OTHER_BASE - 3, BASE + 1, ACKS, data=bytes(30)))
        self.assert_ack(answer, 1, 1)
        self.assertEqual(line.read(6).told, [])

    def test_acked_place_below_the_begin_is_0(self):
        line = opened(window=0)
        # That is no ack of anything, so room is counted from place 0.
        line.came(THEM, 110, packed(THEM, ME, PORTS, OTHER_BASE + 1, BASE - 9, ACKS, 1))
        answer = line.write(120, text(1, 100))
        self.assertEqual([heard(seen).data for seen in answer.sent], [text(1, 63)])


if __name__ == "__main__":
    unittest.main()
