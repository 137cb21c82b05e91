"""at: the temperature at a minute, its edges, and what is refused."""

import contextlib
import io
import random
import unittest

from kilnloads.firing import at, time
from tests.samples import GREATEST, RUN, changed, minutes_of, programs_at_bounds, wrong_programs

# Some minutes that a wrong program is asked at.
MINUTES = [0, 1, 104, 397, 2 ** 32, GREATEST]


def told(program, minutes):
    """The temperatures at some minutes."""
    answers = [at(minute, list(program)) for minute in minutes]
    return [number for answer in answers for number in answer[1:]]


class TheRun(unittest.TestCase):
    def test_told_by_the_document(self):
        self.assertEqual(at(0, list(RUN)), [0, 1200])
        self.assertEqual(at(104, list(RUN)), [0, 32400])
        self.assertEqual(at(105, list(RUN)), [0, 32800])
        self.assertEqual(at(121, list(RUN)), [0, 39000])
        for minute in (397, 398, 400, 10000, GREATEST):
            self.assertEqual(at(minute, list(RUN)), [0, 2400])

    def test_names_of_the_arguments(self):
        self.assertEqual(at(minute=105, program=list(RUN)), [0, 32800])

    def test_answer_is_a_list_of_whole_numbers(self):
        for answer in (at(7, list(RUN)), at(GREATEST, list(RUN)), at(0, [])):
            self.assertIs(type(answer), list)
            self.assertEqual([type(number) for number in answer], [int] * len(answer))

    def test_every_edge(self):
        # Up, with the last minute cut short; 10 minutes held; down in one minute; 30 held; down.
        self.assertEqual(told(RUN, [1, 103]), [1500, 32100])
        self.assertEqual(told(RUN, [119, 120, 121, 122, 130, 131]), [38400, 38800, 39000, 39000, 39000, 39000])
        self.assertEqual(told(RUN, [132, 133, 161, 162]), [30600, 30600, 30600, 30600])
        self.assertEqual(told(RUN, [163, 164, 395, 396, 397]), [30480, 30360, 2640, 2520, 2400])


class Up(unittest.TestCase):
    def test_divided(self):
        # 30 degrees by 600 an hour: three minutes.
        self.assertEqual(told([50, 600, 0], range(6)), [1200, 1800, 2400, 3000, 3000, 3000])

    def test_last_minute_cut_short(self):
        self.assertEqual(told([50, 700, 0], range(5)), [1200, 1900, 2600, 3000, 3000])

    def test_by_less_than_a_degree_a_minute(self):
        self.assertEqual(told([21, 59, 0], range(4)), [1200, 1259, 1260, 1260])
        self.assertEqual(told([21, 1, 0], [1, 58, 59, 60, 61]), [1201, 1258, 1259, 1260, 1260])

    def test_with_a_hold_and_on(self):
        program = [50, 700, 2, 51, 40, 0]
        self.assertEqual(told(program, range(9)), [1200, 1900, 2600, 3000, 3000, 3000, 3040, 3060, 3060])

    def test_without_a_hold_and_on(self):
        self.assertEqual(told([50, 700, 0, 51, 40, 0], range(7)), [1200, 1900, 2600, 3000, 3040, 3060, 3060])


class Down(unittest.TestCase):
    def test_divided(self):
        self.assertEqual(told([5, 300, 0], range(5)), [1200, 900, 600, 300, 300])

    def test_last_minute_cut_short(self):
        self.assertEqual(told([5, 400, 0], range(5)), [1200, 800, 400, 300, 300])

    def test_to_nothing(self):
        self.assertEqual(told([0, 700, 0], range(4)), [1200, 500, 0, 0])
        self.assertEqual(told([0, 9999, 3], [0, 1, 2, 4, 5, GREATEST]), [1200, 0, 0, 0, 0, 0])

    def test_with_a_hold_and_on(self):
        program = [5, 400, 2, 4, 40, 0]
        self.assertEqual(told(program, range(9)), [1200, 800, 400, 300, 300, 300, 260, 240, 240])

    def test_without_a_hold_and_on(self):
        self.assertEqual(told([5, 400, 0, 50, 1000, 0], range(8)), [1200, 800, 400, 300, 1300, 2300, 3000, 3000])


class NotAtAll(unittest.TestCase):
    def test_first_segment_takes_no_minute(self):
        for rate in (1, 60, 9999):
            self.assertEqual(told([20, rate, 0, 21, 30, 1], range(5)), [1200, 1230, 1260, 1260, 1260])

    def test_no_minute_at_all(self):
        for count in (1, 2, 32):
            program = [20, 60, 0] * count
            self.assertEqual(time(list(program)), [0, 0])
            self.assertEqual(told(program, MINUTES), [1200] * len(MINUTES))

    def test_held_only(self):
        self.assertEqual(told([20, 60, 2, 19, 60, 0], range(5)), [1200, 1200, 1200, 1140, 1140])

    def test_several_in_a_row(self):
        nothing = [20, 60, 0] * 3
        self.assertEqual(told(nothing + [22, 60, 0], range(4)), [1200, 1260, 1320, 1320])
        between = [22, 60, 0] + [22, 9999, 0] * 3 + [21, 60, 0]
        self.assertEqual(told(between, range(5)), [1200, 1260, 1320, 1260, 1260])
        behind = [22, 60, 1] + [22, 1, 0] * 3
        self.assertEqual(told(behind, range(5)), [1200, 1260, 1320, 1320, 1320])

    def test_between_holds(self):
        program = [22, 60, 2, 22, 60, 0, 22, 60, 2, 23, 60, 0]
        self.assertEqual(told(program, range(9)), [1200, 1260, 1320, 1320, 1320, 1320, 1320, 1380, 1380])


class Taken(unittest.TestCase):
    def test_every_number_at_its_bounds(self):
        for program in programs_at_bounds():
            with self.subTest(program=program):
                minutes = minutes_of(program)
                some = sorted(set(range(0, len(minutes), 89)) | {len(minutes) - 1})
                self.assertEqual(told(program, some), [minutes[minute] for minute in some])

    def test_longest(self):
        program = [1400, 1, 9999, 0, 1, 9999] * 16
        last = 60 * (1380 + 31 * 1400) + 32 * 9999
        self.assertEqual(told(program, [last - 10000, last - 9999, last - 1, last, last + 1]), [1, 0, 0, 0, 0])
        self.assertEqual(told(program, [82799, 82800, 92799, 92800]), [83999, 84000, 84000, 83999])

    def test_minutes_about_the_programs_time(self):
        for program, edge in (([21, 59, 0], [1259, 1260, 1260, 1260]), ([19, 59, 0], [1141, 1140, 1140, 1140]),
                              ([21, 60, 3], [1260] * 4), (RUN, [2520, 2400, 2400, 2400])):
            last = time(list(program))[1]
            self.assertEqual(told(program, [last - 1, last, last + 1, GREATEST]), edge)


class Refused(unittest.TestCase):
    def test_programs_with_any_minute(self):
        for program in wrong_programs():
            for minute in MINUTES:
                with self.subTest(program=program, minute=minute):
                    self.assertEqual(at(minute, list(program)), [-1])

    def test_wrong_behind_the_minute_that_is_asked(self):
        # Minute 1 lies in the first segment; the wrong number stands in the last.
        self.assertEqual(at(1, changed(RUN, 11, 10000)), [-1])
        self.assertEqual(at(1, RUN + [20, 60]), [-1])


class ByItself(unittest.TestCase):
    def test_list_stays_as_it_was(self):
        for program in [RUN, RUN[:11], [], RUN * 10, changed(RUN, 0, GREATEST)]:
            for minute in MINUTES:
                handed = list(program)
                at(minute, handed)
                self.assertEqual(handed, program)

    def test_second_call_answers_as_the_first(self):
        calls = [(105, RUN), (0, RUN), (GREATEST, RUN), (3, []), (105, RUN[:3]), (1, [19, 60, 0]), (105, RUN[:11])]
        first = [at(minute, list(program)) for minute, program in calls]
        self.assertEqual([at(minute, list(program)) for minute, program in calls], first)
        self.assertEqual([at(minute, list(program)) for minute, program in reversed(calls)], first[::-1])

    def test_answer_is_the_callers_own(self):
        for program in (RUN, []):
            answer = at(5, list(program))
            expected = list(answer)
            answer.append(7)
            self.assertEqual(at(5, list(program)), expected)

    def test_prints_nothing(self):
        with contextlib.redirect_stdout(io.StringIO()) as out, contextlib.redirect_stderr(io.StringIO()) as err:
            at(5, list(RUN))
            at(5, [])
        self.assertEqual(out.getvalue() + err.getvalue(), "")


def some_programs(count):
    draw = random.Random(42)
    programs = [RUN]
    while len(programs) < count:
        program = []
        for _ in range(draw.randint(1, 6)):
            target = draw.choice([draw.randint(0, 1400), draw.randint(0, 40), 20])
            program += [target, draw.choice([60, 399, 400, 601, 2000, 9999]), draw.choice([0, 0, 1, 9])]
        programs.append(program)
    return programs


def rates_of(program):
    """The rate of the segment to which the way from each minute to the next belongs."""
    rates = []
    first = 20
    for k in range(0, len(program), 3):
        target, rate, hold = program[k:k + 3]
        rates += [rate] * (-(-abs(target - first) * 60 // rate) + hold)
        first = target
    return rates


class Promise1(unittest.TestCase):
    def test_minute_by_minute(self):
        for program in some_programs(60):
            minutes = minutes_of(program)
            last = time(list(program))[1]
            self.assertEqual(last, len(minutes) - 1, program)
            self.assertEqual(told(program, range(last + 1)), minutes, program)

    def test_first_and_last(self):
        for program in some_programs(200):
            last = time(list(program))[1]
            self.assertEqual(at(0, list(program)), [0, 1200], program)
            for minute in (last, last + 1, last + 1000, GREATEST):
                self.assertEqual(at(minute, list(program)), [0, 60 * program[-3]], program)

    def test_no_step_beyond_the_segments_rate(self):
        for program in some_programs(60):
            rates = rates_of(program)
            temperatures = told(program, range(time(list(program))[1] + 1))
            self.assertEqual(len(rates), len(temperatures) - 1, program)
            for now, then, rate in zip(temperatures, temperatures[1:], rates):
                self.assertLessEqual(abs(then - now), rate, program)


if __name__ == "__main__":
    unittest.main()
