"""judge: the rules of a right program, their order, their edges, and what is refused."""

import contextlib
import io
import unittest

from kilnloads.firing import judge
from tests.samples import GREATEST, RUN, beyond, changed, programs_at_bounds, wrong_programs

# The run's glass, shop and kind, in the order of judge's arguments.
GIVEN = {"s": 480, "a": 520, "f": 720, "t": 30, "up": 12000, "down": 400000, "cool": 6000, "rest": 1,
         "kind_heat": 640, "hold": 5}

BOUNDS = {"s": (1, 1400), "a": (1, 1400), "f": (1, 1400), "t": (1, 500), "up": (1, 1000000), "down": (1, 1000000),
          "cool": (1, 1000000), "rest": (0, 1000), "kind_heat": (1, 1400), "hold": (0, 9999)}


def judged(program=RUN, **others):
    """judge's answer of the program, with the run's numbers but for the others."""
    numbers = dict(GIVEN)
    numbers.update(others)
    return judge(*[numbers[name] for name in GIVEN], list(program))


class TheRun(unittest.TestCase):
    def test_right(self):
        self.assertEqual(judge(480, 520, 720, 30, 12000, 400000, 6000, 1, 640, 5, list(RUN)), [0])

    def test_rest_2(self):
        self.assertEqual(judge(480, 520, 720, 30, 12000, 400000, 6000, 2, 640, 5, list(RUN)), [0, 6, 4])

    def test_named_arguments(self):
        answer = judge(s=480, a=520, f=720, t=30, up=12000, down=400000, cool=6000, rest=1, kind_heat=640, hold=5,
                       program=list(RUN))
        self.assertEqual(answer, [0])

    def test_answer_is_a_list_of_whole_numbers(self):
        for answer in (judged(), judged(rest=2), judged(t=0)):
            self.assertIs(type(answer), list)
            self.assertEqual([type(number) for number in answer], [int] * len(answer))


class Rule1(unittest.TestCase):
    def test_target_of_f_and_above(self):
        self.assertEqual(judged(f=650), [0])
        self.assertEqual(judged(f=649), [0, 1, 1])

    def test_first_segment(self):
        program = [720, 300, 0] + RUN[3:]
        self.assertEqual(judged(program), [0])
        program = [721, 300, 0] + RUN[3:]
        self.assertEqual(judged(program), [0, 1, 0])

    def test_segment_that_goes_not_at_all(self):
        # It stays above f: the segment before is told, which goes there.
        self.assertEqual(judged([721, 300, 0, 721, 300, 5]), [0, 1, 0])

    def test_kiln_above_f_goes_down_to_a_target_above_f(self):
        self.assertEqual(judged([19, 1, 0], s=1, a=2, f=18), [0, 1, 0])

    def test_segment_that_stays_above_f(self):
        self.assertEqual(judged([20, 1, 0], s=1, a=2, f=19), [0, 1, 0])
        self.assertEqual(judged([20, 1, 5], s=1, a=2, f=20, kind_heat=20, rest=0), [0, 6, 1])


class Rule2(unittest.TestCase):
    def test_rate_times_t_at_up_and_above(self):
        self.assertEqual(judged(up=9000), [0])
        self.assertEqual(judged(up=8999), [0, 2, 0])
        self.assertEqual(judged(changed(RUN, 1, 400)), [0])
        self.assertEqual(judged(changed(RUN, 1, 401)), [0, 2, 0])

    def test_from_a_and_from_below(self):
        # Segment 1 goes up by 9,999 from the first target: a is 520.
        fast = changed(RUN, 4, 9999)
        self.assertEqual(judged(changed(fast, 0, 520)), [0])
        self.assertEqual(judged(changed(fast, 0, 519)), [0, 2, 1])

    def test_from_the_kiln(self):
        # The kiln stands at 20: with a of 20 the first segment is free, with a of 21 it is not.
        program = [30, 9999, 0, 20, 1, 0]
        self.assertEqual(judged(program, s=1, a=20, kind_heat=1, hold=0, rest=0), [0])
        self.assertEqual(judged(program, s=1, a=21, kind_heat=1, hold=0, rest=0), [0, 2, 0])

    def test_up_to_below_a(self):
        self.assertEqual(judged([21, 401, 0]), [0, 2, 0])

    def test_not_going(self):
        self.assertEqual(judged([20, 9999, 0] + RUN), [0])
        self.assertEqual(judged([20, 9999, 0] + RUN, up=9000, down=3600, cool=3600), [0, 3, 3])

    def test_going_down_is_not_going_up(self):
        self.assertEqual(judged([19, 9999, 0] + RUN, cool=1000000), [0])


class Rule3(unittest.TestCase):
    def test_rate_times_t_at_down_and_above(self):
        self.assertEqual(judged(down=299970), [0])
        self.assertEqual(judged(down=299969), [0, 3, 2])

    def test_to_a_and_to_below(self):
        self.assertEqual(judged(changed(RUN, 6, 520), down=3600), [0])
        self.assertEqual(judged(changed(RUN, 6, 519), down=3600), [0, 3, 2])

    def test_from_s_and_from_above(self):
        # Segment 3 goes down from segment 2's target; cool lets it.
        slow = changed(changed(RUN, 7, 100), 10, 200)
        self.assertEqual(judged(changed(slow, 6, 480), down=3000), [0])
        self.assertEqual(judged(changed(slow, 6, 481), down=3000), [0, 3, 3])

    def test_not_going(self):
        program = RUN[:9] + [510, 9999, 30] + RUN[9:]
        self.assertEqual(judged(program, down=299970), [0])
        slow = changed(program, 7, 100)
        self.assertEqual(judged(slow, down=3600), [0])

    def test_going_up_is_not_going_down(self):
        program = RUN[:9] + [515, 400, 30] + RUN[9:]
        self.assertEqual(judged(changed(program, 7, 100), down=3600), [0])


class Rule4(unittest.TestCase):
    def test_rate_times_t_at_cool_and_above(self):
        self.assertEqual(judged(cool=3600), [0])
        self.assertEqual(judged(cool=3599), [0, 4, 3])

    def test_to_s_and_to_below(self):
        self.assertEqual(judged(changed(RUN, 6, 480)), [0])
        # Without a rest in segment 2 rule 6 would be told, but rule 4 comes at a segment.
        self.assertEqual(judged(changed(RUN, 6, 479)), [0, 4, 2])

    def test_from_below_s_too(self):
        program = RUN + [39, 200, 0]
        self.assertEqual(judged(program), [0])
        program = RUN + [39, 201, 0]
        self.assertEqual(judged(program), [0, 4, 4])

    def test_from_the_kiln(self):
        self.assertEqual(judged([19, 201, 0] + RUN), [0, 4, 0])
        self.assertEqual(judged([19, 200, 0] + RUN), [0])

    def test_not_going(self):
        self.assertEqual(judged(RUN + [40, 9999, 0]), [0])

    def test_down_to_0(self):
        self.assertEqual(judged(RUN + [0, 200, 0]), [0])
        self.assertEqual(judged(RUN + [0, 201, 0]), [0, 4, 4])


class Rule5(unittest.TestCase):
    def test_hold_of_the_kinds_and_less(self):
        self.assertEqual(judged(hold=10), [0])
        self.assertEqual(judged(hold=11), [0, 5, 4])

    def test_target_of_h_and_below(self):
        self.assertEqual(judged(kind_heat=650), [0])
        self.assertEqual(judged(kind_heat=651), [0, 5, 4])

    def test_hold_0(self):
        self.assertEqual(judged(changed(RUN, 5, 0), hold=0), [0])
        self.assertEqual(judged(changed(RUN, 5, 0), hold=1), [0, 5, 4])

    def test_heat_and_hold_in_one_segment(self):
        # 650 degrees without a hold, and a long hold below the heat, are together not enough.
        program = changed(changed(RUN, 5, 0), 8, 9999)
        self.assertEqual(judged(program), [0, 5, 4])

    def test_any_segment(self):
        self.assertEqual(judged([650, 300, 5] + RUN[3:5] + [0] + RUN[6:]), [0])
        self.assertEqual(judged([20, 60, 5], kind_heat=20), [0])
        self.assertEqual(judged([20, 60, 5], kind_heat=21), [0, 5, 1])

    def test_holds_are_not_added(self):
        program = RUN[:3] + [650, 400, 3, 650, 400, 3] + RUN[6:]
        self.assertEqual(judged(program), [0, 5, 5])

    def test_the_kiln_itself_is_no_segment(self):
        self.assertEqual(judged([10, 60, 5], kind_heat=15), [0, 5, 1])


class Rule6(unittest.TestCase):
    def test_hold_of_rest_times_t_and_less(self):
        self.assertEqual(judged(changed(RUN, 8, 30)), [0])
        self.assertEqual(judged(changed(RUN, 8, 29)), [0, 6, 4])
        self.assertEqual(judged(changed(RUN, 8, 60), rest=2), [0])
        self.assertEqual(judged(changed(RUN, 8, 59), rest=2), [0, 6, 4])

    def test_rest_0(self):
        self.assertEqual(judged(changed(RUN, 8, 0), rest=0), [0])
        self.assertEqual(judged(RUN[:6] + RUN[9:], rest=0), [0, 6, 3])

    def test_target_from_s_to_a(self):
        self.assertEqual(judged(changed(RUN, 6, 480)), [0])
        self.assertEqual(judged(changed(RUN, 6, 479), cool=1000000), [0, 6, 4])
        self.assertEqual(judged(changed(RUN, 6, 520)), [0])
        self.assertEqual(judged(changed(RUN, 6, 521)), [0, 6, 4])

    def test_some_target_above_a(self):
        program = [520, 300, 5, 40, 120, 0]
        self.assertEqual(judged(program, kind_heat=520), [0])
        program = [521, 300, 5, 40, 120, 0]
        self.assertEqual(judged(program, kind_heat=520), [0, 6, 2])

    def test_only_behind_the_last_segment_above_a(self):
        self.assertEqual(judged([510, 300, 30] + RUN[:6] + RUN[9:]), [0, 6, 4])
        self.assertEqual(judged(RUN[:9] + [521, 300, 30] + RUN[9:]), [0, 6, 5])
        self.assertEqual(judged(RUN[:9] + [521, 300, 0] + RUN[6:]), [0])

    def test_any_segment_behind(self):
        self.assertEqual(judged(RUN[:6] + [515, 100, 0] + RUN[6:]), [0])
        self.assertEqual(judged(RUN[:9] + [490, 100, 0] + RUN[9:]), [0])
        # Cooled first, then warmed again to its rest: it is behind the last all the same.
        self.assertEqual(judged(RUN[:6] + [40, 120, 0, 500, 300, 30] + RUN[9:]), [0])

    def test_holds_are_not_added(self):
        program = RUN[:6] + [510, 100, 15, 500, 100, 15] + RUN[9:]
        self.assertEqual(judged(program), [0, 6, 5])

    def test_rest_that_no_hold_meets(self):
        self.assertEqual(judged(changed(RUN, 8, 9999), t=1, rest=1000), [0])
        self.assertEqual(judged(changed(RUN, 8, 9999), t=10, rest=1000), [0, 6, 4])


class Rule7(unittest.TestCase):
    def test_last_target_of_40_and_41(self):
        self.assertEqual(judged(changed(RUN, 9, 40)), [0])
        self.assertEqual(judged(changed(RUN, 9, 41)), [0, 7, 4])

    def test_only_the_last(self):
        self.assertEqual(judged(RUN + [41, 120, 0]), [0, 7, 5])
        self.assertEqual(judged(changed(RUN, 9, 41) + [40, 120, 0]), [0])

    def test_one_segment(self):
        self.assertEqual(judged([40, 120, 5], kind_heat=1), [0])
        self.assertEqual(judged([41, 120, 5], kind_heat=1), [0, 7, 1])


class Order(unittest.TestCase):
    def test_1_before_2(self):
        self.assertEqual(judged([721, 401, 0]), [0, 1, 0])
        self.assertEqual(judged([720, 401, 0]), [0, 2, 0])

    def test_1_before_3_and_4(self):
        # From the kiln's 20 down to 19, which is above f: a and s lie below f, so 3 and 4 can't hold there.
        self.assertEqual(judged([19, 9999, 0], s=1, a=2, f=18, down=1, cool=1), [0, 1, 0])

    def test_3_before_4(self):
        self.assertEqual(judged(changed(RUN, 10, 9999), down=299969, cool=1), [0, 3, 2])
        slow = changed(RUN, 7, 100)
        self.assertEqual(judged(slow, down=3599, cool=3599), [0, 3, 3])
        self.assertEqual(judged(slow, down=3600, cool=3599), [0, 4, 3])

    def test_first_segment_before_lower_rule(self):
        self.assertEqual(judged(up=8999, f=649), [0, 2, 0])
        self.assertEqual(judged([19, 201, 0, 721, 401, 0]), [0, 4, 0])
        self.assertEqual(judged(RUN + [721, 401, 0], down=299969), [0, 3, 2])

    def test_5_to_7_only_behind_all_segments(self):
        everything = [0, 60, 0, 530, 300, 0, 41, 201, 0]
        self.assertEqual(judged(everything), [0, 4, 2])
        self.assertEqual(judged(changed(everything, 7, 200)), [0, 5, 3])
        self.assertEqual(judged(changed(everything, 7, 200), kind_heat=530, hold=0), [0, 6, 3])
        self.assertEqual(judged(changed(everything, 7, 200), a=530, kind_heat=530, hold=0), [0, 7, 3])

    def test_5_before_6_before_7(self):
        program = changed(RUN, 9, 41)
        self.assertEqual(judged(program, rest=2, hold=11), [0, 5, 4])
        self.assertEqual(judged(program, rest=2), [0, 6, 4])
        self.assertEqual(judged(program, hold=11), [0, 5, 4])
        self.assertEqual(judged(program), [0, 7, 4])


class Refused(unittest.TestCase):
    def test_numbers_beyond_their_bounds(self):
        for name, bounds in BOUNDS.items():
            for number in beyond(bounds):
                with self.subTest(name=name, number=number):
                    self.assertEqual(judged(**{name: number}), [-1])

    def test_softening_point_beyond_alone(self):
        # s and a are in order below it: the bound alone is broken.
        self.assertEqual(judged(s=1398, a=1399, f=1401), [-1])

    def test_strain_point_beyond_alone(self):
        self.assertEqual(judged(s=0, a=1, f=2), [-1])

    def test_s_not_below_a(self):
        self.assertEqual(judged(s=520), [-1])
        self.assertEqual(judged(s=521), [-1])
        self.assertNotEqual(judged(s=519), [-1])

    def test_a_not_below_f(self):
        self.assertEqual(judged(a=720), [-1])
        self.assertEqual(judged(a=721), [-1])
        self.assertNotEqual(judged(a=719), [-1])

    def test_programs(self):
        for program in wrong_programs():
            with self.subTest(program=program):
                self.assertEqual(judged(program), [-1])

    def test_refused_before_any_rule(self):
        # Segment 0 breaks rule 2; a number of the last segment is out of its bounds.
        self.assertEqual(judged(changed(RUN, 11, 10000), up=1), [-1])
        self.assertEqual(judged(up=1, hold=10000), [-1])


class Taken(unittest.TestCase):
    def test_numbers_at_their_bounds(self):
        for name in ("t", "up", "down", "cool", "rest", "kind_heat", "hold"):
            for number in BOUNDS[name]:
                with self.subTest(name=name, number=number):
                    self.assertEqual(judged(**{name: number})[0], 0)

    def test_answers_at_the_bounds(self):
        self.assertEqual(judged(t=1), [0])
        self.assertEqual(judged(t=500), [0, 2, 0])
        self.assertEqual(judged(up=1), [0, 2, 0])
        self.assertEqual(judged(up=1000000, down=1000000, cool=1000000), [0])
        self.assertEqual(judged(down=1), [0, 3, 2])
        self.assertEqual(judged(cool=1), [0, 4, 3])
        self.assertEqual(judged(rest=0), [0])
        self.assertEqual(judged(rest=1000), [0, 6, 4])
        self.assertEqual(judged(kind_heat=1), [0])
        self.assertEqual(judged(kind_heat=1400), [0, 5, 4])
        self.assertEqual(judged(hold=0), [0])
        self.assertEqual(judged(hold=9999), [0, 5, 4])

    def test_points_at_their_bounds(self):
        self.assertEqual(judged(s=1), [0])
        self.assertEqual(judged([1, 1, 0, 2, 1, 0], s=1, a=2, f=3, kind_heat=1, hold=0), [0])
        self.assertEqual(judged(f=1400), [0])
        self.assertEqual(judged(s=1398, a=1399, f=1400), [0, 4, 2])
        self.assertEqual(judged(s=1398, a=1399, f=1400, cool=1000000), [0])

    def test_programs_at_their_bounds(self):
        for program in programs_at_bounds():
            with self.subTest(program=program):
                self.assertEqual(judged(program)[0], 0)

    def test_32_segments(self):
        self.assertEqual(judged([20, 60, 0] * 28 + RUN), [0])
        self.assertEqual(judged([20, 60, 0] * 28 + RUN, rest=2), [0, 6, 32])
        self.assertEqual(judged([20, 60, 0] * 28 + RUN, cool=3599), [0, 4, 31])

    def test_targets_of_0_and_1400(self):
        program = [0, 200, 0, 1400, 400, 5, 1399, 9999, 9999, 0, 200, 0]
        self.assertEqual(judged(program, s=1398, a=1399, f=1400, kind_heat=1400), [0])


class ByItself(unittest.TestCase):
    def test_list_stays_as_it_was(self):
        for program in [RUN, RUN[:11], [], RUN * 10, changed(RUN, 1, 401), changed(RUN, 0, GREATEST)]:
            handed = list(program)
            judge(*GIVEN.values(), handed)
            self.assertEqual(handed, program)

    def test_second_call_answers_as_the_first(self):
        calls = [{}, {"rest": 2}, {"f": 649}, {"t": 0}, {"program": RUN[:11]}, {"program": [20, 60, 5]}]
        first = [judged(**call) for call in calls]
        self.assertEqual([judged(**call) for call in calls], first)
        self.assertEqual([judged(**call) for call in reversed(calls)], first[::-1])

    def test_answer_is_the_callers_own(self):
        for others in ({}, {"rest": 2}, {"t": 0}):
            answer = judged(**others)
            expected = list(answer)
            answer.append(7)
            self.assertEqual(judged(**others), expected)

    def test_prints_nothing(self):
        with contextlib.redirect_stdout(io.StringIO()) as out, contextlib.redirect_stderr(io.StringIO()) as err:
            judged()
            judged(t=0)
        self.assertEqual(out.getvalue() + err.getvalue(), "")


if __name__ == "__main__":
    unittest.main()
