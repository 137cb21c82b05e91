"""heat: the temperature after so many minutes of going, its edges, and that it is what at tells."""

import itertools
import random
import unittest

from kilnloads.firing import at, heat
from tests.by_itself import CallsByItself
from tests.samples import GREATEST


def told(start, target, rate, minutes):
    """The temperatures after some minutes."""
    answers = [heat(start, target, rate, minute) for minute in minutes]
    return [number for answer in answers for number in answer[1:]]


class TheAnswer(unittest.TestCase):
    def test_of_the_documents_run(self):
        self.assertEqual(heat(20, 540, 300, 0), [0, 1200])
        self.assertEqual(heat(20, 540, 300, 104), [0, 32400])
        self.assertEqual(heat(540, 650, 400, 1), [0, 32800])
        self.assertEqual(heat(540, 650, 400, 17), [0, 39000])
        self.assertEqual(heat(650, 510, 9999, 1), [0, 30600])
        self.assertEqual(heat(510, 40, 120, 234), [0, 2520])
        self.assertEqual(heat(510, 40, 120, 235), [0, 2400])

    def test_names_of_the_arguments(self):
        self.assertEqual(heat(start=20, target=540, rate=300, minute=2), [0, 1800])

    def test_answer_is_a_list_of_whole_numbers(self):
        for given in ((20, 540, 300, 2), (540, 20, 300, 2), (20, 20, 0, 0), (GREATEST, 0, GREATEST, GREATEST)):
            answer = heat(*given)
            self.assertIs(type(answer), list)
            self.assertEqual([type(number) for number in answer], [int, int])


class Up(unittest.TestCase):
    def test_divided(self):
        self.assertEqual(told(20, 50, 600, [0, 1, 2, 3, 4, 5]), [1200, 1800, 2400, 3000, 3000, 3000])

    def test_last_minute_cut_short(self):
        self.assertEqual(told(20, 50, 700, [0, 1, 2, 3, 4]), [1200, 1900, 2600, 3000, 3000])
        self.assertEqual(told(20, 50, 601, [1, 2, 3, 4]), [1801, 2402, 3000, 3000])
        self.assertEqual(told(20, 50, 599, [2, 3, 4, 5]), [2398, 2997, 3000, 3000])

    def test_by_one(self):
        self.assertEqual(told(7, 8, 1, [0, 1, 59, 60, 61]), [420, 421, 479, 480, 480])

    def test_in_one_minute(self):
        self.assertEqual(told(20, 50, 1800, [0, 1, 2]), [1200, 3000, 3000])
        self.assertEqual(told(20, 50, 1799, [0, 1, 2]), [1200, 2999, 3000])
        self.assertEqual(told(20, 50, 1801, [0, 1, 2]), [1200, 3000, 3000])

    def test_from_0(self):
        self.assertEqual(told(0, 2, 50, [0, 1, 2, 3]), [0, 50, 100, 120])


class Down(unittest.TestCase):
    def test_divided(self):
        self.assertEqual(told(50, 20, 600, [0, 1, 2, 3, 4, 5]), [3000, 2400, 1800, 1200, 1200, 1200])

    def test_last_minute_cut_short(self):
        self.assertEqual(told(50, 20, 700, [0, 1, 2, 3, 4]), [3000, 2300, 1600, 1200, 1200])
        self.assertEqual(told(50, 20, 601, [1, 2, 3, 4]), [2399, 1798, 1200, 1200])
        self.assertEqual(told(50, 20, 599, [2, 3, 4, 5]), [1802, 1203, 1200, 1200])

    def test_by_one(self):
        self.assertEqual(told(8, 7, 1, [0, 1, 59, 60, 61]), [480, 479, 421, 420, 420])

    def test_in_one_minute(self):
        self.assertEqual(told(50, 20, 1800, [0, 1, 2]), [3000, 1200, 1200])
        self.assertEqual(told(50, 20, 1799, [0, 1, 2]), [3000, 1201, 1200])
        self.assertEqual(told(50, 20, 1801, [0, 1, 2]), [3000, 1200, 1200])

    def test_to_0_and_never_below(self):
        self.assertEqual(told(2, 0, 50, [0, 1, 2, 3, 4, GREATEST]), [120, 70, 20, 0, 0, 0])


class NotAtAll(unittest.TestCase):
    def test_target_as_from(self):
        for number in (0, 1, 20, 1400, GREATEST):
            for rate, minute in itertools.product((0, 1, 600, GREATEST), repeat=2):
                self.assertEqual(heat(number, number, rate, minute), [0, 60 * number])

    def test_target_just_above_at_and_below(self):
        self.assertEqual([heat(500, target, 7, 3) for target in (499, 500, 501)], [[0, 29979], [0, 30000], [0, 30021]])
        self.assertEqual([heat(500, target, 60, 1) for target in (499, 500, 501)], [[0, 29940], [0, 30000], [0, 30060]])
        self.assertEqual([heat(500, target, 61, 1) for target in (499, 500, 501)], [[0, 29940], [0, 30000], [0, 30060]])

    def test_rate_0(self):
        for target in (0, 19, 20, 21, GREATEST):
            self.assertEqual(told(20, target, 0, [0, 1, 1000, GREATEST]), [1200] * 4)

    def test_minute_0(self):
        for target, rate in itertools.product((0, 19, 20, 21, GREATEST), (0, 1, 9999, GREATEST)):
            self.assertEqual(heat(20, target, rate, 0), [0, 1200])


class BeyondAProgram(unittest.TestCase):
    """No bounds of a program bind the numbers."""

    def test_just_beyond_the_bounds_of_a_segment(self):
        self.assertEqual(heat(1401, 1500, 10000, 0), [0, 84060])
        self.assertEqual(heat(0, 1401, 10000, 3), [0, 30000])
        self.assertEqual(heat(2000, 1401, 10000, 3), [0, 90000])
        self.assertEqual(heat(2000, 1401, 10000, 4), [0, 84060])

    def test_the_greatest_one_by_one(self):
        self.assertEqual(heat(GREATEST, 540, 300, 7), [0, 60 * GREATEST - 2100])
        self.assertEqual(heat(20, GREATEST, 300, 7), [0, 3300])
        self.assertEqual(heat(20, 540, GREATEST, 7), [0, 32400])
        self.assertEqual(heat(540, 20, GREATEST, 7), [0, 1200])
        self.assertEqual(heat(20, 540, 300, GREATEST), [0, 32400])
        self.assertEqual(heat(540, 20, 300, GREATEST), [0, 1200])

    def test_0_one_by_one(self):
        self.assertEqual(heat(0, 540, 300, 7), [0, 2100])
        self.assertEqual(heat(540, 0, 300, 7), [0, 30300])
        self.assertEqual(heat(20, 540, 0, 7), [0, 1200])
        self.assertEqual(heat(20, 540, 300, 0), [0, 1200])

    def test_all_of_them_together(self):
        self.assertEqual(heat(0, 0, 0, 0), [0, 0])
        self.assertEqual(heat(GREATEST, GREATEST, GREATEST, GREATEST), [0, 60 * GREATEST])

    def test_0_and_the_greatest_in_every_way(self):
        # Where it goes at all, the greatest rate for the greatest number of minutes leads to the target.
        for start, target, rate, minute in itertools.product((0, GREATEST), repeat=4):
            end = target if rate and minute else start
            self.assertEqual(heat(start, target, rate, minute), [0, 60 * end])

    def test_about_the_greatest(self):
        self.assertEqual(told(0, GREATEST, GREATEST, [59, 60, 61]), [59 * GREATEST, 60 * GREATEST, 60 * GREATEST])
        self.assertEqual(told(GREATEST, 0, GREATEST, [59, 60, 61]), [GREATEST, 0, 0])
        self.assertEqual(told(0, GREATEST, 60, [GREATEST - 1, GREATEST]), [60 * GREATEST - 60, 60 * GREATEST])
        self.assertEqual(told(0, GREATEST, 59, [GREATEST]), [59 * GREATEST])
        self.assertEqual(told(GREATEST, 0, 60, [GREATEST - 1, GREATEST]), [60, 0])
        self.assertEqual(told(GREATEST, 0, 59, [GREATEST]), [GREATEST])
        self.assertEqual(heat(GREATEST, GREATEST - 1, 59, 1), [0, 60 * GREATEST - 59])
        self.assertEqual(heat(GREATEST - 1, GREATEST, 59, 1), [0, 60 * GREATEST - 1])


class ByItself(CallsByItself, unittest.TestCase):
    CALLS = [(20, 540, 300, 7), (540, 20, 300, 7), (20, 20, 300, 7), (0, 0, 0, 0), (20, 540, 300, GREATEST)]

    def called(self, *given):
        return heat(*given)


class ByChance(unittest.TestCase):
    def test_step_by_step(self):
        # One sixtieth after another, towards the target, as many as rate and minutes give.
        draw = random.Random(45)
        for _ in range(400):
            start, target, rate = draw.randint(0, 30), draw.randint(0, 30), draw.randint(0, 90)
            now = 60 * start
            for minute in range(40):
                self.assertEqual(heat(start, target, rate, minute), [0, now], (start, target, rate, minute))
                for _ in range(rate):
                    now += (60 * target > now) - (60 * target < now)

    def test_between_from_and_target(self):
        # What would be gone without end, but for from and target: the middle one of the three.
        draw = random.Random(46)
        for _ in range(3000):
            start, target, rate, minute = [draw.randrange(2 ** draw.randint(1, 64)) for _ in range(4)]
            way = minute * rate if target > start else -minute * rate
            middle = sorted([60 * start, 60 * target, 60 * start + way])[1]
            self.assertEqual(heat(start, target, rate, minute), [0, middle], (start, target, rate, minute))

    def test_as_at_within_the_first_segments_going(self):
        draw = random.Random(47)
        for _ in range(300):
            target, rate = draw.choice([draw.randint(0, 1400), draw.randint(15, 25)]), draw.randint(1, 9999)
            behind = [draw.randint(0, 1400), draw.randint(1, 9999), draw.randint(0, 9)]
            program = [target, rate, draw.randint(0, 3)] + draw.choice([[], behind])
            last = -(-abs(target - 20) * 60 // rate)
            minutes = {0, 1, last - 1, last} | {draw.randint(0, last) for _ in range(20)}
            for minute in minutes & set(range(last + 1)):
                self.assertEqual(at(minute, list(program)), heat(20, target, rate, minute), (minute, program))


if __name__ == "__main__":
    unittest.main()
