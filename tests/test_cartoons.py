"""The rules 1 to 13 of a cartoon's bytes, as loads tells them: each with its place, at its edge, in its order."""

import itertools
import unittest

from kilnloads.firing import loads
from tests.drawn import CROSS, SMALLEST, by_y, drawn, grid, number_bytes
from tests.samples import GREATEST, changed

RIGHT = [0, 0]


def judged(data):
    """What loads answers where no pane is painted: [0, 0] of a cartoon."""
    return loads(GREATEST, list(data), [600, 5], [])


def with_number(data, place, size, number):
    return data[:place] + number_bytes(number, size) + data[place + size:]


class Rules(unittest.TestCase):
    def assert_right(self, sheet):
        self.assertEqual(judged(sheet.data()), RIGHT)

    def assert_point(self, rule, sheet, place):
        self.assertEqual(judged(sheet.data()), [-5, rule, sheet.point_place(sheet.point(place))])

    def assert_line(self, rule, sheet, place, other):
        self.assertEqual(judged(sheet.data()), [-5, rule, sheet.line_place(sheet.line(place, other))])

    def assert_mark(self, rule, sheet, number):
        self.assertEqual(judged(sheet.data()), [-5, rule, sheet.mark_place(number)])


class Right(Rules):
    def test_smallest(self):
        self.assertEqual(len(SMALLEST.data()), 20 + 8 * 4 + 4 * 4 + 12)
        self.assert_right(SMALLEST)

    def test_several_panes(self):
        self.assert_right(CROSS)
        self.assert_right(grid(3, 2, 8))

    def test_points_on_the_edges(self):
        places = [(5, 0), (9, 0), (0, 3), (0, 15), (16, 1), (16, 8), (1, 16), (15, 16)]
        self.assert_right(drawn(16, 16, [], [(8, 8, 0)], places))

    def test_any_glass(self):
        for glass in (0, 1, 255, 256, 65535):
            self.assertEqual(judged(CROSS.data(glass)), RIGHT)

    def test_200_points(self):
        sheet = grid(19, 9, 4)
        self.assertEqual(len(sheet.points), 200)
        self.assert_right(sheet)

    def test_largest_frame(self):
        most = 1048575
        sheet = drawn(most, most, [[(0, 0), (most, most)]], [(most - 1, 1, 0), (1, most - 1, 0)])
        self.assert_right(sheet)
        # The marks as near to the long line as can be.
        self.assert_right(sheet.but(marks=[(most - 1, most - 2, 0), (most - 2, most - 1, 0)]))


class Rule1(Rules):
    def test_fewer_than_20_bytes(self):
        for size in range(20):
            self.assertEqual(judged(SMALLEST.data()[:size]), [-5, 1, size])
            self.assertEqual(judged([255] * size), [-5, 1, size])

    def test_20_bytes(self):
        self.assertEqual(judged(SMALLEST.data()[:20]), [-5, 3, 20])
        self.assertEqual(judged([0] * 20), [-5, 1, 0])

    def test_first_bytes(self):
        for place in range(4):
            for byte in (0, 255, SMALLEST.data()[place] + 1, SMALLEST.data()[place] - 1):
                self.assertEqual(judged(changed(SMALLEST.data(), place, byte)), [-5, 1, 0])

    def test_before_rule_2(self):
        self.assertEqual(judged(with_number(changed(SMALLEST.data(), 3, 50), 4, 4, 0)), [-5, 1, 0])


class Rule2(Rules):
    def test_width_and_height(self):
        for place in (4, 8):
            for number in (0, 1, 15, 1048576, 2 ** 24, 2 ** 24 + 16, 2 ** 32 - 1):
                self.assertEqual(judged(with_number(SMALLEST.data(), place, 4, number)), [-5, 2, place])

    def test_width_and_height_at_their_edges(self):
        for side in (16, 1048575):
            self.assert_right(drawn(side, 16, [], [(8, 8, 0)]))
            self.assert_right(drawn(16, side, [], [(8, 8, 0)]))

    def test_numbers_of_parts(self):
        # With a number that is taken the bytes are too few or too many: rule 3.
        for place, most, least in ((12, 4096, 4), (14, 8192, 4), (16, 2048, 1)):
            for number in (0, least - 1, most + 1, 65535):
                self.assertEqual(judged(with_number(CROSS.data(), place, 2, number)), [-5, 2, place])
            for number in (least, most):
                self.assertEqual(judged(with_number(CROSS.data(), place, 2, number)), [-5, 3, 20])

    def test_fewest_parts(self):
        # Each number by itself just below what SMALLEST tells.
        for place, number in ((12, 3), (14, 3), (16, 0)):
            self.assertEqual(judged(with_number(SMALLEST.data(), place, 2, number)), [-5, 2, place])

    def test_bytes_18_and_19(self):
        for place in (18, 19):
            for byte in (1, 255):
                self.assertEqual(judged(changed(SMALLEST.data(), place, byte)), [-5, 2, 18])

    def test_least_place(self):
        data = SMALLEST.data()[:4] + [0] * 14 + [1, 1]
        for place, size, number in ((4, 4, 16), (8, 4, 16), (12, 2, 4), (14, 2, 4), (16, 2, 1)):
            self.assertEqual(judged(data), [-5, 2, place])
            data = with_number(data, place, size, number)
        self.assertEqual(judged(data), [-5, 2, 18])
        self.assertEqual(judged(data[:18] + [0, 0]), [-5, 3, 20])


class Rule3(Rules):
    def test_too_few_and_too_many(self):
        for sheet in (SMALLEST, CROSS):
            data = sheet.data()
            for other in (data[:-1], data[:-12], data[:20], data + [0], data + data[-12:], data + [0] * 99000):
                self.assertEqual(judged(other), [-5, 3, 20])

    def test_both_bytes_count(self):
        for place in (12, 14, 16):
            data = SMALLEST.data()
            self.assertEqual(judged(changed(data, place + 1, 1)), [-5, 3, 20])

    def test_each_part_counts(self):
        data = CROSS.data()
        for place in (12, 14, 16):
            for step in (-1, 1):
                self.assertEqual(judged(changed(data, place, data[place] + step)), [-5, 3, 20])

    def test_before_rule_4(self):
        sheet = SMALLEST.but(points=[(0, 0), (17, 0), (0, 16), (16, 16)])
        self.assertEqual(judged(sheet.data()[:-1]), [-5, 3, 20])


class Rule4(Rules):
    def assert_broken(self, sheet, number):
        self.assertEqual(judged(sheet.data()), [-5, 4, sheet.point_place(number)])

    def test_beyond_the_frame(self):
        sheet = drawn(20, 30, [], [(8, 8, 0)], [(7, 9)])
        number = sheet.point((7, 9))
        for place in ((21, 9), (2 ** 24 + 7, 9), (2 ** 32 - 1, 9), (7, 31), (7, 2 ** 24 + 9), (7, 2 ** 32 - 1)):
            points = changed(sheet.points, number, place)
            self.assert_broken(sheet.but(points=points), number)
        # At the frame's edge it is taken: what is broken then is that no line goes there.
        self.assertEqual(judged(sheet.but(points=changed(sheet.points, number, (20, 9))).data()), [-5, 6, 20])

    def test_last_point_above(self):
        self.assert_broken(SMALLEST.but(points=[(0, 0), (16, 0), (0, 16), (16, 17)]), 3)
        self.assert_broken(SMALLEST.but(points=[(0, 0), (16, 0), (0, 16), (17, 16)]), 3)

    def test_first_point(self):
        self.assert_broken(SMALLEST.but(points=[(17, 0), (16, 0), (0, 16), (16, 16)]), 0)

    def test_not_behind_the_point_before(self):
        self.assert_broken(SMALLEST.but(points=[(16, 0), (0, 0), (0, 16), (16, 16)]), 1)
        self.assert_broken(SMALLEST.but(points=[(0, 0), (0, 16), (16, 0), (16, 16)]), 2)
        self.assert_broken(SMALLEST.but(points=[(0, 0), (0, 16), (0, 15), (16, 16)]), 2)

    def test_one_place_twice(self):
        self.assert_broken(SMALLEST.but(points=[(0, 0), (16, 0), (16, 0), (16, 16)]), 2)

    def test_of_one_y_by_x(self):
        sheet = drawn(40, 40, [[(0, 0), (9, 5), (10, 5), (40, 0)]], [(20, 1, 0), (20, 20, 0)])
        self.assert_right(sheet)
        number = sheet.point((10, 5))
        self.assert_broken(sheet.but(points=changed(sheet.points, number, (9, 5))), number)
        self.assert_broken(sheet.but(points=changed(sheet.points, number, (8, 5))), number)

    def test_y_goes_before_x(self):
        self.assert_right(drawn(40, 40, [[(0, 0), (30, 5), (2, 6), (0, 40)]], [(10, 5, 0), (30, 30, 0)]))

    def test_least_place(self):
        self.assert_broken(SMALLEST.but(points=[(0, 0), (17, 0), (0, 17), (17, 16)]), 1)

    def test_before_rule_5(self):
        sheet = SMALLEST.but(points=[(0, 0), (16, 0), (0, 16), (16, 17)], lines=[(1, 0), (0, 2), (1, 3), (2, 3)])
        self.assert_broken(sheet, 3)


class Rule5(Rules):
    def assert_broken(self, lines, number):
        sheet = SMALLEST.but(lines=lines)
        self.assertEqual(judged(sheet.data()), [-5, 5, sheet.line_place(number)])

    def test_first_not_below_second(self):
        self.assert_broken([(0, 1), (0, 2), (1, 3), (3, 2)], 3)
        self.assert_broken([(0, 1), (0, 2), (1, 3), (2, 2)], 3)
        self.assert_broken([(1, 0), (0, 2), (1, 3), (2, 3)], 0)
        self.assert_broken([(0, 0), (0, 2), (1, 3), (2, 3)], 0)
        self.assert_broken([(0, 1), (0, 2), (1, 3), (256 + 2, 3)], 3)

    def test_second_not_below_how_many_points(self):
        for second in (4, 5, 256, 256 + 3, 65535):
            self.assert_broken([(0, 1), (0, 2), (1, 3), (2, second)], 3)
        self.assert_broken([(0, 1), (0, 2), (1, 3), (65534, 65535)], 3)

    def test_not_behind_the_line_before(self):
        self.assert_broken([(0, 2), (0, 1), (1, 3), (2, 3)], 1)
        self.assert_broken([(0, 1), (0, 2), (2, 3), (1, 3)], 3)
        self.assert_broken([(0, 1), (1, 3), (0, 2), (2, 3)], 2)

    def test_one_line_twice(self):
        self.assert_broken([(0, 1), (0, 2), (1, 3), (1, 3), (2, 3)], 3)

    def test_first_goes_before_second(self):
        # The second number falls where the first rises.
        self.assert_right(drawn(16, 16, [[(16, 0), (0, 16)]], [(1, 1, 0), (15, 15, 0)]))
        self.assertEqual(drawn(16, 16, [[(16, 0), (0, 16)]], []).lines, [(0, 1), (0, 2), (1, 2), (1, 3), (2, 3)])
        self.assertEqual(judged(SMALLEST.but(lines=[(0, 3), (1, 2), (1, 3), (2, 3)]).data()), [-5, 6, 20])

    def test_least_place(self):
        self.assert_broken([(0, 1), (2, 0), (1, 3), (1, 3)], 1)

    def test_before_rule_6(self):
        self.assert_broken([(0, 1), (0, 3), (1, 2), (2, 4)], 3)


class Rule6(Rules):
    def assert_broken(self, sheet):
        self.assertEqual(judged(sheet.data()), [-5, 6, 20])

    def test_a_corner_that_is_no_point(self):
        for corners in ([(1, 0), (16, 0), (0, 16), (16, 16)], [(0, 1), (16, 1), (0, 16), (16, 16)],
                        [(0, 0), (15, 0), (0, 16), (16, 16)], [(0, 0), (16, 1), (0, 16), (16, 16)],
                        [(0, 0), (16, 0), (1, 16), (16, 16)], [(0, 0), (16, 0), (0, 15), (16, 16)],
                        [(0, 0), (16, 0), (0, 16), (15, 16)], [(0, 0), (16, 0), (0, 15), (16, 15)]):
            self.assert_broken(SMALLEST.but(points=corners))

    def test_frame_wider_or_higher_than_its_points(self):
        self.assert_broken(SMALLEST.but(width=17))
        self.assert_broken(SMALLEST.but(height=17))

    def test_an_edge_that_no_line_joins(self):
        sheet = drawn(16, 16, [[(0, 0), (8, 8), (16, 16)], [(16, 0), (8, 8), (0, 16)]], [(8, 1, 0)])
        for edge in (((0, 0), (16, 0)), ((0, 0), (0, 16)), ((16, 0), (16, 16)), ((0, 16), (16, 16))):
            lines = list(sheet.lines)
            lines.pop(sheet.line(*edge))
            self.assert_broken(sheet.but(lines=lines))

    def test_points_next_to_one_another_on_an_edge(self):
        middle = (20, 20)
        sheet = drawn(40, 40, [[(13, 0), middle, (27, 0)], [(13, 40), middle, (27, 40)], [(0, 13), middle, (0, 27)],
                               [(40, 13), middle, (40, 27)]],
                      [(20, 1, 0), (1, 1, 0), (39, 1, 0), (1, 20, 0), (39, 20, 0), (1, 39, 0), (20, 39, 0), (39, 39, 0)])
        self.assert_right(sheet)
        on_edges = [k for k, place in enumerate(sheet.points) if place != middle]
        frame = [line for line in sheet.lines if line[0] in on_edges and line[1] in on_edges]
        self.assertEqual(len(frame), 12)
        for line in frame:
            self.assert_broken(sheet.but(lines=[other for other in sheet.lines if other != line]))

    def test_a_line_past_a_point_of_the_edge(self):
        for edge in ([(0, 0), (8, 0), (16, 0)], [(0, 16), (8, 16), (16, 16)], [(0, 0), (0, 8), (0, 16)],
                     [(16, 0), (16, 8), (16, 16)]):
            sheet = drawn(16, 16, [edge, edge[::2]], [(8, 8, 0)])
            for part in (edge[:2], edge[1:]):
                lines = list(sheet.lines)
                lines.pop(sheet.line(*part))
                self.assert_broken(sheet.but(lines=lines))

    def test_before_rule_7(self):
        sheet = drawn(16, 16, [[(0, 0), (16, 16)], [(16, 0), (0, 16)]], [(8, 1, 0)])
        self.assertEqual(judged(sheet.data())[:2], [-5, 7])
        lines = list(sheet.lines)
        lines.pop(sheet.line((0, 16), (16, 16)))
        self.assert_broken(sheet.but(lines=lines))


class Rule7(Rules):
    def test_a_point_on_a_line(self):
        sheet = drawn(40, 40, [[(0, 0), (40, 40)], [(0, 40), (10, 10), (40, 0)]], [(1, 2, 0)])
        self.assert_line(7, sheet, (0, 0), (40, 40))

    def test_a_point_beside_a_line(self):
        for place in ((10, 11), (9, 10)):
            ways = [[(0, 0), (40, 40)], [(0, 0), place, (0, 40)]]
            self.assert_right(drawn(40, 40, ways, [(30, 1, 0), (1, 10, 0), (20, 30, 0)]))

    def test_a_point_in_one_row_behind_its_ends(self):
        self.assert_right(drawn(40, 40, [[(0, 0), (10, 10), (20, 20), (40, 0)]], [(20, 1, 0), (1, 20, 0)]))

    def test_a_point_without_lines_on_a_line(self):
        for ways, place in (([[(0, 0), (40, 40)]], (1, 1)), ([[(0, 0), (40, 40)]], (39, 39)),
                            ([[(0, 20), (40, 20)]], (7, 20)), ([[(20, 0), (20, 40)]], (20, 7))):
            sheet = drawn(40, 40, ways, [(1, 2, 0)], [place])
            self.assert_line(7, sheet, ways[0][0], ways[0][1])

    def test_an_edge_past_its_points(self):
        sheet = drawn(16, 16, [[(0, 0), (16, 0)]], [(8, 8, 0)], [(8, 0)])
        self.assert_line(7, sheet, (0, 0), (16, 0))

    def test_a_line_and_one_along_it(self):
        sheet = drawn(40, 40, [[(0, 0), (10, 10), (40, 40)], [(0, 0), (40, 40)]], [(1, 2, 0)])
        self.assert_line(7, sheet, (0, 0), (40, 40))
        # Both have an end of the other on them: the first is told.
        row = [(0, 0), (10, 10), (20, 20), (40, 40)]
        sheet = drawn(40, 40, [[row[0], row[2]], [row[1], row[3]]], [(1, 2, 0)])
        self.assert_line(7, sheet, row[0], row[2])
        # The inner of two comes behind the outer.
        sheet = drawn(40, 40, [[row[0], row[3]], [row[1], row[2]]], [(1, 2, 0)])
        self.assert_line(7, sheet, row[0], row[3])

    def test_crossing(self):
        sheet = drawn(16, 16, [[(0, 0), (16, 16)], [(16, 0), (0, 16)]], [(8, 1, 0)])
        self.assert_line(7, sheet, (16, 0), (0, 16))

    def test_crossing_upright_and_level(self):
        sheet = drawn(40, 40, [[(0, 20), (40, 20)], [(10, 0), (10, 40)]], [(1, 1, 0)])
        self.assert_line(7, sheet, (0, 20), (40, 20))

    def test_crossing_where_no_point_with_whole_numbers_is(self):
        sheet = drawn(16, 16, [[(0, 0), (16, 15)], [(16, 0), (0, 15)]], [(8, 1, 0)])
        self.assert_line(7, sheet, (16, 0), (0, 15))

    def test_crossing_by_a_hair(self):
        most = 1048575
        sheet = drawn(most, most, [[(0, 0), (most, most)], [(0, most), (most - 1, most - 1), (most, 0)]], [(2, 1, 0)])
        self.assert_line(7, sheet, (0, 0), (most, most))
        sheet = drawn(most, most, [[(0, 0), (most, most)], [(0, most), (most - 1, most - 2), (0, most - 1)]], [(2, 1, 0)])
        self.assertEqual(judged(sheet.data())[:2], [-5, 7])
        sheet = drawn(most, most, [[(0, 0), (most, most)], [(0, most), (most - 2, most - 1), (0, most - 1)]],
                      [(2, 1, 0), (1, 2, 0), (2, most - 1, 0)])
        self.assertNotEqual(judged(sheet.data())[:2], [-5, 7])

    def test_crossing_of_the_shortest_lines(self):
        sheet = drawn(40, 40, [[(10, 10), (12, 11)], [(11, 10), (11, 11)]], [(1, 2, 0)])
        self.assert_line(7, sheet, (11, 10), (11, 11))

    def test_the_later_line_crosses(self):
        # The line between (20, 5) and (20, 35) comes behind the two that it crosses, and ahead of a third.
        ways = [[(0, 10), (40, 10)], [(0, 20), (40, 20)], [(20, 5), (20, 35)], [(0, 30), (40, 30)]]
        sheet = drawn(40, 40, ways, [(1, 1, 0)])
        self.assertLess(sheet.line((20, 5), (20, 35)), sheet.line((0, 10), (40, 10)))
        self.assert_line(7, sheet, (0, 10), (40, 10))
        sheet = drawn(40, 40, ways[:3], [(1, 1, 0)])
        self.assert_line(7, sheet, (0, 10), (40, 10))

    def test_a_line_that_ends_on_another(self):
        # Told is the line that has the point on it, also if it comes behind the other.
        sheet = drawn(40, 40, [[(5, 5), (20, 20)], [(0, 20), (40, 20)]], [(1, 1, 0)])
        self.assertLess(sheet.line((5, 5), (20, 20)), sheet.line((0, 20), (40, 20)))
        self.assert_line(7, sheet, (0, 20), (40, 20))
        sheet = drawn(40, 40, [[(20, 20), (35, 35)], [(0, 20), (40, 20)]], [(1, 1, 0)])
        self.assertLess(sheet.line((0, 20), (40, 20)), sheet.line((20, 20), (35, 35)))
        self.assert_line(7, sheet, (0, 20), (40, 20))

    def test_lines_with_one_end_in_common(self):
        self.assert_right(drawn(40, 40, [[(0, 0), (40, 40)], [(0, 0), (20, 30), (40, 40)]],
                                [(30, 1, 0), (20, 25, 0), (1, 30, 0)]))

    def test_lines_that_would_cross_if_they_were_longer(self):
        ways = [[(0, 0), (18, 18), (40, 0)], [(0, 40), (22, 19), (40, 40)]]
        self.assert_right(drawn(40, 40, ways, [(20, 1, 0), (1, 20, 0), (20, 39, 0)]))

    def test_least_place(self):
        sheet = drawn(40, 40, [[(0, 0), (40, 40)], [(40, 0), (0, 40)], [(10, 0), (10, 40)], [(5, 5), (5, 6)]],
                      [(1, 2, 0)])
        broken = [sheet.line((0, 0), (40, 40)), sheet.line((40, 0), (0, 40)), sheet.line((10, 0), (10, 40))]
        self.assertEqual(min(broken), broken[0])
        self.assert_line(7, sheet, (0, 0), (40, 40))

    def test_before_rule_8(self):
        sheet = drawn(40, 40, [[(1, 0), (1, 1)], [(5, 5), (20, 20)], [(5, 20), (20, 5)]], [(1, 2, 0)])
        self.assert_line(7, sheet, (20, 5), (5, 20))


class Rule8(Rules):
    def test_a_way_that_ends(self):
        self.assert_point(8, drawn(40, 40, [[(0, 0), (10, 10)]], [(1, 2, 0)]), (10, 10))
        self.assert_point(8, drawn(40, 40, [[(0, 0), (10, 10), (20, 10)]], [(1, 2, 0)]), (20, 10))

    def test_a_way_that_does_not_end(self):
        self.assert_right(drawn(40, 40, [[(0, 0), (10, 10), (40, 0)]], [(10, 1, 0), (1, 10, 0)]))

    def test_a_point_without_a_line(self):
        self.assert_point(8, drawn(40, 40, [], [(1, 2, 0)], [(10, 10)]), (10, 10))

    def test_a_line_by_itself(self):
        self.assert_point(8, drawn(40, 40, [[(10, 10), (9, 20)]], [(1, 2, 0)]), (10, 10))

    def test_least_place(self):
        sheet = drawn(40, 40, [[(40, 40), (30, 30)], [(0, 0), (10, 10)], [(40, 0), (39, 10)]], [(1, 2, 0)])
        self.assert_point(8, sheet, (10, 10))

    def test_before_rule_9(self):
        # A triangle that hangs on nothing has lesser numbers than the way that ends.
        ways = [[(5, 5), (9, 5), (5, 9), (5, 5)], [(40, 40), (30, 30)]]
        self.assert_point(8, drawn(40, 40, ways, [(1, 2, 0)]), (30, 30))


class Rule9(Rules):
    HANGING = [(5, 5), (9, 5), (5, 9), (5, 5)]

    def test_lines_that_hang_on_nothing(self):
        self.assert_point(9, drawn(40, 40, [self.HANGING], [(1, 2, 0), (6, 6, 0)]), (5, 5))

    def test_least_place(self):
        other = [(30, 3), (34, 3), (30, 9), (30, 3)]
        self.assert_point(9, drawn(40, 40, [self.HANGING, other], [(1, 2, 0)]), (30, 3))

    def test_one_way_is_enough(self):
        # Then it is the point at which it hangs that rule 10 tells.
        sheet = drawn(40, 40, [self.HANGING, [(0, 0), (5, 5)]], [(1, 2, 0)])
        self.assert_point(10, sheet, (0, 0))

    def test_before_rule_10(self):
        # Point 0 is one without which others have no way.
        ways = [[(0, 0), (30, 1), (30, 2), (0, 0)], self.HANGING]
        self.assert_point(10, drawn(40, 40, ways[:1], [(1, 2, 0)]), (0, 0))
        self.assert_point(9, drawn(40, 40, ways, [(1, 2, 0)]), (5, 5))


class Rule10(Rules):
    def test_a_triangle_at_one_point_of_the_frame(self):
        for corner in ((0, 0), (40, 0), (0, 40), (40, 40)):
            ways = [[corner, (19, 20), (20, 21), corner]]
            self.assert_point(10, drawn(40, 40, ways, [(1, 2, 0)]), corner)

    def test_a_triangle_at_a_point_of_an_edge(self):
        ways = [[(20, 0), (19, 20), (20, 21), (20, 0)]]
        self.assert_point(10, drawn(40, 40, ways, [(1, 2, 0)]), (20, 0))

    def test_a_triangle_at_a_point_within(self):
        ways = [[(0, 0), (20, 20), (40, 0)], [(20, 20), (19, 30), (21, 30), (20, 20)]]
        self.assert_point(10, drawn(40, 40, ways, [(1, 2, 0)]), (20, 20))

    def test_a_triangle_at_two_points(self):
        ways = [[(0, 0), (20, 20), (40, 0)], [(20, 20), (19, 30), (21, 30), (20, 20)], [(21, 30), (40, 40)]]
        self.assert_right(drawn(40, 40, ways, [(20, 1, 0), (1, 20, 0), (20, 29, 0), (39, 20, 0)]))

    def test_a_chain_of_triangles(self):
        # Each joint breaks the rule; the least number is told.
        ways = [[(20, 0), (19, 10), (20, 12), (20, 0)], [(20, 12), (19, 20), (20, 22), (20, 12)]]
        self.assert_point(10, drawn(40, 40, ways, [(1, 2, 0)]), (20, 0))
        ways = [[(20, 30), (19, 31), (20, 40), (20, 30)], [(20, 20), (19, 21), (20, 30), (20, 20)]]
        self.assert_point(10, drawn(40, 40, ways, [(1, 2, 0)]), (20, 30))

    def test_a_bridge(self):
        # Two rings, one line between: both its ends break the rule.
        ways = [[(10, 10), (20, 10), (10, 20), (10, 10)], [(0, 40), (10, 20)]]
        self.assert_point(10, drawn(40, 40, ways, [(1, 2, 0)]), (10, 20))

    def test_before_rule_11(self):
        ways = [[(0, 0), (19, 20), (20, 21), (0, 0)]]
        self.assert_point(10, drawn(40, 40, ways, [(0, 0, 0)]), (0, 0))


class Rule11(Rules):
    def test_not_within_the_frame(self):
        for place in ((0, 8), (16, 8), (8, 0), (8, 16), (0, 0), (16, 16), (17, 8), (8, 17), (2 ** 32 - 1, 8),
                      (8, 2 ** 32 - 1), (2 ** 24 + 8, 8), (8, 2 ** 24 + 8)):
            self.assert_mark(11, SMALLEST.but(marks=[place + (0,)]), 0)

    def test_just_within_the_frame(self):
        for place in ((1, 1), (15, 1), (1, 15), (15, 15), (1, 8), (15, 8), (8, 1), (8, 15)):
            self.assert_right(SMALLEST.but(marks=[place + (0,)]))

    def test_on_a_line(self):
        sheet = drawn(40, 40, [[(0, 0), (40, 40)]], [(2, 1, 0), (1, 2, 0)])
        self.assert_right(sheet)
        for place in ((1, 1), (20, 20), (39, 39)):
            self.assert_mark(11, sheet.but(marks=[place + (0,), (1, 40 - 1, 0)]), 0)
            self.assert_mark(11, sheet.but(marks=[(39, 1, 0), place + (0,)]), 1)

    def test_on_an_upright_and_on_a_level_line(self):
        self.assert_mark(11, CROSS.but(marks=[(20, 10, 0)] + CROSS.marks[2:]), 0)
        self.assert_mark(11, CROSS.but(marks=CROSS.marks[:2] + [(10, 20, 0)] + CROSS.marks[3:]), 2)

    def test_on_a_point(self):
        self.assert_mark(11, CROSS.but(marks=[(20, 20, 0)]), 0)

    def test_beside_a_line(self):
        for place in ((19, 10), (19, 19), (1, 19)):
            self.assert_right(CROSS.but(marks=sorted([place + (0,)] + CROSS.marks[1:], key=by_y)))

    def test_in_a_row_with_a_line_but_behind_its_end(self):
        sheet = drawn(40, 40, [[(0, 0), (10, 10), (40, 0)]], [(10, 1, 0), (20, 20, 0)])
        self.assert_right(sheet)
        sheet = drawn(40, 40, [[(0, 10), (10, 10), (10, 0)]], [(5, 5, 0), (20, 10, 0)])
        self.assert_right(sheet)
        sheet = drawn(40, 40, [[(0, 10), (10, 10), (10, 0)]], [(5, 5, 0), (10, 20, 0)])
        self.assert_right(sheet)

    def test_not_behind_the_mark_before(self):
        marks = CROSS.marks
        self.assert_mark(11, CROSS.but(marks=[marks[1], marks[0], marks[2], marks[3]]), 1)
        self.assert_mark(11, CROSS.but(marks=[marks[0], marks[2], marks[1], marks[3]]), 2)
        self.assert_mark(11, CROSS.but(marks=[marks[0], marks[0], marks[1], marks[2], marks[3]]), 1)

    def test_y_goes_before_x(self):
        self.assert_right(CROSS.but(marks=[(30, 10, 0), (10, 11, 0), (30, 40, 0), (10, 41, 0)]))

    def test_least_place(self):
        marks = CROSS.marks
        self.assert_mark(11, CROSS.but(marks=[marks[0], (20, 10, 0), marks[2], marks[2]]), 1)

    def test_before_rule_12(self):
        # Mark 1 is in the pane of mark 0; mark 3 is on a line.
        self.assert_mark(11, CROSS.but(marks=[(10, 10, 0), (11, 10, 0), (30, 10, 0), (20, 30, 0)]), 3)


class Rule12(Rules):
    def test_two_marks_in_one_pane(self):
        self.assert_mark(12, SMALLEST.but(marks=[(8, 8, 0), (9, 8, 0)]), 1)
        self.assert_mark(12, SMALLEST.but(marks=[(1, 1, 0), (15, 15, 0)]), 1)

    def test_the_later_mark_is_told(self):
        self.assert_mark(12, CROSS.but(marks=CROSS.marks + [(10, 59, 0)]), 4)
        self.assert_mark(12, CROSS.but(marks=CROSS.marks[:3] + [(19, 59, 0)]), 3)

    def test_least_place(self):
        self.assert_mark(12, CROSS.but(marks=[(10, 10, 0), (30, 10, 0), (31, 11, 0), (10, 12, 0), (10, 40, 0)]), 2)

    def test_before_rule_13(self):
        self.assert_mark(12, CROSS.but(marks=[(10, 10, 0), (11, 10, 0)]), 1)

    def test_as_many_marks_as_can_be(self):
        marks = [(1 + k % 60, 1 + k // 60, 0) for k in range(2048)]
        self.assert_mark(12, drawn(64, 64, [], marks), 1)


class Rule13(Rules):
    def assert_broken(self, sheet):
        self.assertEqual(judged(sheet.data()), [-5, 13, len(sheet.data())])

    def test_a_pane_without_a_mark(self):
        for left_out in range(4):
            marks = list(CROSS.marks)
            marks.pop(left_out)
            self.assert_broken(CROSS.but(marks=marks))
        self.assert_broken(CROSS.but(marks=CROSS.marks[:1]))

    def test_a_pane_in_which_no_point_with_whole_numbers_lies(self):
        # The way goes along the edge, one step above it.
        sheet = drawn(16, 16, [[(0, 0), (8, 1), (16, 0)]], [(8, 8, 0)])
        self.assert_broken(sheet)
        self.assert_right(drawn(16, 16, [[(0, 0), (8, 2), (16, 0)]], [(8, 1, 0), (8, 8, 0)]))

    def test_the_smallest_triangle(self):
        ways = [[(0, 0), (10, 10), (11, 10), (40, 0)], [(10, 10), (10, 11), (11, 10)]]
        self.assert_broken(drawn(40, 40, ways, [(10, 1, 0), (10, 30, 0)]))

    def test_a_pane_within_a_pane_of_many_corners(self):
        ways = [[(0, 0), (10, 10), (30, 10), (40, 0)], [(10, 10), (20, 30), (30, 10)]]
        sheet = drawn(40, 40, ways, [(20, 1, 0), (20, 20, 0), (20, 39, 0)])
        self.assert_right(sheet)
        self.assert_broken(sheet.but(marks=[(20, 1, 0), (20, 39, 0)]))


class Panes(Rules):
    """Which marks are in one pane."""

    def assert_panes(self, ways, panes):
        """The drawing, in a frame of 40 by 40, has these panes, each with some places in it; so it has turned round."""
        for _ in range(4):
            ways = [[(40 - y, x) for x, y in way] for way in ways]
            panes = [[(40 - y, x) for x, y in pane] for pane in panes]
            for places in itertools.product(*panes):
                self.assert_right(drawn(40, 40, ways, [place + (0,) for place in places]))
            for pane in panes:
                for places in itertools.combinations(pane, 2):
                    self.assert_mark(12, drawn(40, 40, ways, [place + (0,) for place in places]), 1)

    def test_a_snail(self):
        # One way from the edge round and round to the middle, and out again beside itself.
        inward = [(0, 0), (36, 4), (36, 36), (4, 36), (4, 8), (32, 8), (32, 32), (8, 32), (8, 12)]
        outward = [(10, 14), (10, 30), (30, 30), (30, 10), (6, 10), (6, 34), (34, 34), (34, 6), (0, 4)]
        # Two panes: what lies between the way in and the way out, and all the rest, wound about one another.
        between = [(35, 20), (5, 20), (31, 20), (9, 20), (20, 35), (20, 31), (9, 14)]
        rest = [(38, 20), (2, 20), (33, 20), (7, 20), (29, 20), (20, 20), (11, 20), (20, 38), (39, 1)]
        self.assert_panes([inward + outward], [between, rest])

    def test_a_saw_with_teeth_at_the_marks_height(self):
        teeth = [(4 * k, 20 if k % 2 else 10) for k in range(1, 10)]
        below = [(4 * k, 9) for k in range(1, 10)] + [(4, 18), (12, 18), (20, 18), (3, 10), (20, 10)]
        above = [(4 * k, 21) for k in range(1, 10)] + [(8, 18), (16, 18), (8, 20), (16, 20), (2, 20), (38, 20), (1, 10)]
        self.assert_panes([[(0, 0)] + teeth + [(40, 0)]], [below, above])

    def test_a_mark_in_a_row_with_level_lines(self):
        # A step on either side, at the mark's height.
        steps = [(0, 20), (10, 20), (10, 10), (30, 10), (30, 20), (40, 20)]
        self.assert_panes([steps], [[(20, 1), (1, 10), (39, 10), (39, 19)], [(20, 20), (20, 11), (1, 21), (20, 39)]])

    def test_corners_where_the_outline_goes_straight_on(self):
        ways = [[(0, 20), (5, 20), (20, 20), (35, 20), (40, 20)], [(20, 0), (20, 7), (20, 20)]]
        self.assert_panes(ways, [[(1, 1), (19, 7), (19, 19)], [(21, 1), (39, 7)], [(1, 30), (20, 21), (39, 21)]])

    def test_marks_by_a_line_as_near_as_can_be(self):
        self.assert_panes([[(0, 0), (40, 39)]], [[(1, 1), (1, 39), (39, 39)], [(39, 1), (39, 38), (2, 1)]])

    def test_lines_as_near_to_one_another_as_can_be(self):
        # At (10, 10) the ways part by the least angle that there is between lines so short.
        ways = [[(0, 0), (10, 10), (11, 11), (11, 40)], [(10, 10), (12, 11), (40, 11)]]
        panes = [[(20, 1), (11, 9), (12, 10), (39, 10)], [(1, 20), (10, 11), (10, 39)], [(20, 20), (12, 12), (39, 12)]]
        self.assert_panes(ways, panes)

    def test_a_sharp_turn_at_a_short_line(self):
        ways = [[(0, 0), (10, 10), (11, 10), (10, 11), (0, 40)], [(11, 10), (11, 0)]]
        panes = [[(10, 5), (10, 9), (2, 1)], [(5, 10), (1, 2), (9, 11)], [(12, 1), (12, 10), (11, 11), (39, 39)]]
        self.assert_panes(ways, panes)

    def test_many_lines_at_one_point(self):
        rim = [(0, 0), (10, 0), (25, 0), (40, 0), (40, 15), (40, 40), (30, 40), (0, 40), (0, 21)]
        places = [(6, 2), (18, 2), (30, 2), (38, 8), (38, 25), (35, 38), (15, 38), (2, 30), (2, 10)]
        self.assert_panes([[place, (20, 20)] for place in rim], [[place] for place in places])


if __name__ == "__main__":
    unittest.main()
