"""time: the minutes of a program, its edges, and what is refused."""

import contextlib
import io
import random
import unittest

from kilnloads.firing import time
from tests.samples import GREATEST, RUN, changed, minutes_of, programs_at_bounds, wrong_programs


class TheRun(unittest.TestCase):
    def test_sum(self):
        self.assertEqual(time(list(RUN)), [0, 397])
        self.assertEqual(time(program=list(RUN)), [0, 397])

    def test_segment_by_segment(self):
        self.assertEqual(time(RUN[:3]), [0, 104])
        self.assertEqual(time(RUN[:6]), [0, 104 + 27])
        self.assertEqual(time(RUN[:9]), [0, 104 + 27 + 31])

    def test_answer_is_a_list_of_whole_numbers(self):
        for answer in (time(list(RUN)), time([])):
            self.assertIs(type(answer), list)
            self.assertEqual([type(number) for number in answer], [int] * len(answer))


class Going(unittest.TestCase):
    def test_up_from_20(self):
        self.assertEqual(time([21, 60, 0]), [0, 1])
        self.assertEqual(time([80, 60, 0]), [0, 60])

    def test_down_from_20(self):
        self.assertEqual(time([19, 60, 0]), [0, 1])
        self.assertEqual(time([0, 60, 0]), [0, 20])

    def test_down_from_a_target(self):
        self.assertEqual(time([100, 60, 0, 40, 120, 0]), [0, 80 + 30])

    def test_up_from_a_target(self):
        self.assertEqual(time([100, 60, 0, 160, 120, 0]), [0, 80 + 30])

    def test_not_at_all(self):
        for rate in (1, 60, 9999):
            self.assertEqual(time([20, rate, 0]), [0, 0])
            self.assertEqual(time([20, rate, 7]), [0, 7])
            self.assertEqual(time([100, 60, 3, 100, rate, 0]), [0, 83])
            self.assertEqual(time([100, 60, 3, 100, rate, 7]), [0, 90])

    def test_from_the_target_before_not_from_20(self):
        self.assertEqual(time([100, 60, 0, 20, 60, 0]), [0, 160])
        self.assertEqual(time([20, 60, 0, 100, 60, 0, 101, 60, 0]), [0, 81])


class RoundedUp(unittest.TestCase):
    def test_divided(self):
        self.assertEqual(time([30, 600, 0]), [0, 1])
        self.assertEqual(time([30, 300, 0]), [0, 2])
        self.assertEqual(time([10, 300, 0]), [0, 2])

    def test_just_not_divided(self):
        self.assertEqual(time([30, 599, 0]), [0, 2])
        self.assertEqual(time([30, 601, 0]), [0, 1])
        self.assertEqual(time([30, 299, 0]), [0, 3])
        self.assertEqual(time([30, 301, 0]), [0, 2])
        self.assertEqual(time([10, 299, 0]), [0, 3])
        self.assertEqual(time([10, 301, 0]), [0, 2])

    def test_less_than_a_minute_is_a_minute(self):
        self.assertEqual(time([21, 9999, 0]), [0, 1])
        self.assertEqual(time([19, 9999, 0]), [0, 1])

    def test_each_segment_by_itself(self):
        # Half a minute three times is three minutes.
        self.assertEqual(time([21, 120, 0, 22, 120, 0, 21, 120, 0]), [0, 3])


class Holds(unittest.TestCase):
    def test_0_and_9999(self):
        self.assertEqual(time([21, 60, 0]), [0, 1])
        self.assertEqual(time([21, 60, 9999]), [0, 10000])

    def test_of_every_segment(self):
        self.assertEqual(time([21, 60, 5, 21, 60, 6, 20, 60, 7]), [0, 20])


class Taken(unittest.TestCase):
    def test_32_segments(self):
        self.assertEqual(time([20, 60, 1] * 32), [0, 32])
        self.assertEqual(time([80, 60, 1, 20, 60, 0] * 16), [0, 16 * 121])

    def test_longest(self):
        # From 20 up to 1,400, then down and up by one degree an hour.
        self.assertEqual(time([1400, 1, 9999, 0, 1, 9999] * 16), [0, 60 * (1380 + 31 * 1400) + 32 * 9999])

    def test_targets_at_bounds(self):
        self.assertEqual(time([0, 60, 0]), [0, 20])
        self.assertEqual(time([1400, 60, 0]), [0, 1380])

    def test_rates_at_bounds(self):
        self.assertEqual(time([1400, 1, 0]), [0, 82800])
        self.assertEqual(time([1400, 9999, 0]), [0, 9])

    def test_every_number_at_its_bounds(self):
        for program in programs_at_bounds():
            with self.subTest(program=program):
                self.assertEqual(time(list(program)), [0, len(minutes_of(program)) - 1])


class Refused(unittest.TestCase):
    def test_programs(self):
        for program in wrong_programs():
            with self.subTest(program=program):
                self.assertEqual(time(list(program)), [-1])

    def test_one_segment(self):
        for segment in ([1401, 60, 0], [20, 0, 0], [20, 10000, 0], [20, 60, 10000], [GREATEST, 60, 0],
                        [20, GREATEST, 0], [20, 60, GREATEST], [0, 0, 0], [GREATEST] * 3):
            with self.subTest(segment=segment):
                self.assertEqual(time(segment), [-1])

    def test_ends_within_a_segment(self):
        self.assertEqual(time([20]), [-1])
        self.assertEqual(time([20, 60]), [-1])
        self.assertEqual(time([20, 60, 0, 20]), [-1])


class ByItself(unittest.TestCase):
    def test_list_stays_as_it_was(self):
        for program in [RUN, RUN[:11], [], RUN * 10, changed(RUN, 0, GREATEST)]:
            handed = list(program)
            time(handed)
            self.assertEqual(handed, program)

    def test_second_call_answers_as_the_first(self):
        programs = [RUN, RUN[:3], [], [20, 60, 5], RUN[:11], [19, 60, 0]]
        first = [time(list(program)) for program in programs]
        self.assertEqual([time(list(program)) for program in programs], first)
        self.assertEqual([time(list(program)) for program in reversed(programs)], first[::-1])

    def test_answer_is_the_callers_own(self):
        for program in (RUN, []):
            answer = time(list(program))
            expected = list(answer)
            answer.append(7)
            self.assertEqual(time(list(program)), expected)

    def test_prints_nothing(self):
        with contextlib.redirect_stdout(io.StringIO()) as out, contextlib.redirect_stderr(io.StringIO()) as err:
            time(list(RUN))
            time([])
        self.assertEqual(out.getvalue() + err.getvalue(), "")


class Promise1(unittest.TestCase):
    def test_time_is_the_sum_of_minutes_gone_through(self):
        draw = random.Random(41)
        for _ in range(300):
            program = []
            for _ in range(draw.randint(1, 6)):
                program += [draw.randint(0, 1400), draw.choice([1, 7, 60, 400, 599, 9999]), draw.randint(0, 50)]
            self.assertEqual(time(list(program)), [0, len(minutes_of(program)) - 1], program)


if __name__ == "__main__":
    unittest.main()
