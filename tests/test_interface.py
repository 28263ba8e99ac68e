"""How calls and answers are laid out, and what answers() leaves alone."""

import contextlib
import copy
import io
import unittest

import streamside.side
from streamside.side import answers
from tests.helper import ACKS, BEGIN, Line, from_other, opened, text


class Interface(unittest.TestCase):
    def test_no_call_is_answered_by_nothing(self):
        self.assertEqual(answers([]), [])

    def test_answer_is_its_length_and_number_and_segments(self):
        begin = [0, 1, 0, 2, 0, 0, 0, 100, 0, 0, 0, 0, 1, 0, 4, 0, 250, 126, 0, 0]
        self.assertEqual(answers([1, 1, 1, 2, 2, 100, 5]), [24, 0, 1, 2, 20] + begin)

    def test_refusal_is_its_number_and_segments(self):
        self.assertEqual(answers([6, 3]), [2, -4, 0])
        line = Line()
        line.begin()
        refused = answers(line.calls + [3, 20, 1000, 1, 7])[25:]
        self.assertEqual(refused[:5], [24, -3, 1, 20, 20])

    def test_read_tells_its_bytes_ahead_of_segments(self):
        line = opened()
        before = len(answers(line.calls))
        line.hear(200, 1, 1, ACKS, 1024, data=b"abc")
        line.read(300, 2)
        given = answers(line.calls)[before:]
        self.assertEqual(given[:3], [2, 0, 0])
        self.assertEqual(given[3:10], [26, 2, 97, 98, 1, 20, 20])
        self.assertEqual(len(given), 3 + 27)

    def test_calls_stand_one_behind_another(self):
        calls = [6, 0, 5, 0, 9, 4, 0, 2, 5, 6, 3, 1, 0, 0, 2, 1, 1, 0, 0, 4, 0, 0]
        self.assertEqual(answers(calls), [2, -4, 0] * 4 + [2, 0, 0] + [2, -4, 0])

    def test_all_eleven_calls_stand_one_behind_another(self):
        calls = [11, 10, 9, 0, 7, 8, 0, 7, 0, 1, 1, 1, 2, 2, 100, 5, 10, 8, 6, 4, 7, 2, 50, 60, 5, 8, 9, 6, 9, 9, 10, 0,
                 3, 2, 11, 1, 9, 7, 12, 11, 10, 2, 1, 1, 0, 0, 11]
        first = [0, 0, 0, 0, 0, 0, 0, 0, 5600, 1048576, 1000, 0, 0, 0, 0, 0]
        begin = [0, 1, 0, 2, 0, 0, 0, 100, 0, 0, 0, 0, 1, 0, 4, 0, 250, 126, 0, 0]
        over = [6, 4, 2, 2, 0, 1, 1, 0] + first[8:]
        expected = [[0] + first + [0], [0, 0], [0, 0], [0, 0], [-4, 0], [0, 1, 2, 20] + begin, [1, 1005, 0], [0, 0], [2, 0],
                    [0, 0], [0, 0], [0, 0], [-3, 0], [0, 0], [0] + over + [0], [0, 0], [0, 0], [0, 1] + first[1:] + [0]]
        self.assertEqual(answers(calls), [number for one in expected for number in [len(one)] + one])

    def test_what_is_handed_in_stays(self):
        line = opened()
        line.write(200, text(1, 3000))
        line.hear(250, 1, 1401, ACKS, 1024, data=b"abc")
        line.close(260)
        given = copy.deepcopy(line.calls)
        answers(given)
        self.assertEqual(given, line.calls)

    def test_same_list_is_answered_alike(self):
        line = opened()
        line.write(200, text(1, 3000))
        line.hear(250, 5, 1, ACKS, 1024, data=b"abc")
        first = answers(line.calls)
        self.assertEqual(answers([2, 1, 1, 1, 1]), [2, 0, 0])
        self.assertEqual(answers(line.calls), first)
        first.append(1)
        self.assertNotEqual(answers(line.calls), first)

    def test_whole_numbers_alone_are_given(self):
        line = opened()
        line.write(200, text(1, 3000))
        line.came(20, 210, from_other(1, 1, ACKS | 2, 1024, data=b"x"))
        line.read(220)
        line.read(220)
        line.came(20, 220, from_other(0, None, BEGIN, 1024))
        line.keep(230, 5)
        line.calls += [10, 11]
        line.tick(900)
        line.reset(901)
        line.calls += [10, 11]
        self.assertEqual({type(one) for one in answers(line.calls)}, {int})

    def test_nothing_is_printed(self):
        spoken = io.StringIO()
        with contextlib.redirect_stdout(spoken), contextlib.redirect_stderr(spoken):
            answers([1, 1, 1, 2, 2, 100, 5])
        self.assertEqual(spoken.getvalue(), "")

    def test_long_line_is_answered(self):
        calls = [1, 1, 1, 2, 2, 100, 5] + [6, 1] * 2999
        given = answers(calls)
        self.assertEqual(given[25:28], [2, 0, 0])
        self.assertEqual(given[28:], [2, -6, 0] * 2998)

    def test_function_is_where_the_document_says(self):
        self.assertIs(streamside.side.answers, answers)


if __name__ == "__main__":
    unittest.main()
