"""loads: the row that is told, the refusals in their order, and what is promised of it."""

import random
import unittest

from kilnloads.firing import loads
from tests import oracle
from tests.by_itself import CallsByItself
from tests.drawn import CROSS, SMALLEST, drawn, grid, strips
from tests.rows import kinds_row, loads_in, paintings_row, row_of
from tests.samples import GREATEST, beyond, changed
from tests.some_sheets import some_sheet, spoiled
from tests.some_work import some_heats, some_paintings

KINDS = [640, 5]


def told(shelf, sheet, kinds, paintings):
    return loads_in(row_of(loads(shelf, sheet.data(), list(kinds), list(paintings))))


class TheAnswer(unittest.TestCase):
    def test_smallest_cartoon(self):
        sheet = drawn(16, 16, [], [(8, 8, 1)])
        self.assertEqual(loads(256, sheet.data(), [640, 5], [1, 0]), [0, 3, 0, 1, 0])

    def test_names_of_the_arguments(self):
        sheet = drawn(16, 16, [], [(8, 8, 1)])
        self.assertEqual(loads(shelf=256, cartoon=sheet.data(), kinds=[640, 5], paintings=[1, 0]), [0, 3, 0, 1, 0])

    def test_no_pane_is_painted(self):
        for shelf in (0, 255, GREATEST):
            self.assertEqual(loads(shelf, SMALLEST.data(), [640, 5], []), [0, 0])
            self.assertEqual(loads(shelf, SMALLEST.data(), [640, 5], [1, 0]), [0, 0])
            self.assertEqual(loads(shelf, CROSS.data(), [640, 5, 600, 0], [2, 0, 1]), [0, 0])

    def test_several_loads_and_kinds(self):
        # Areas 160, 320, 48, 128; painting 1 has kinds 1 and 0, painting 2 kind 0.
        sheet = strips([10, 20, 3, 8], [1, 2, 1, 2])
        answer = loads(320, sheet.data(), [600, 5, 650, 5], [2, 1, 0, 1, 0])
        self.assertEqual(loads_in(row_of(answer)), [(1, [0, 2]), (0, [1]), (0, [0, 3]), (0, [2])])
        self.assertEqual(answer, [0, 14, 1, 2, 0, 2, 0, 1, 1, 0, 2, 0, 3, 0, 1, 2])

    def test_answer_is_a_list_of_whole_numbers(self):
        sheet = strips([10, 20, 3, 8], [1, 2, 1, 2])
        for answer in (loads(320, sheet.data(), [600, 5, 650, 5], [2, 1, 0, 1, 0]), loads(1, [], [640, 5], []),
                       loads(1, sheet.data(), [640, 5], [1, 0]), loads(1, [], [], [])):
            self.assertIs(type(answer), list)
            self.assertEqual([type(number) for number in answer], [int] * len(answer))


class Kinds(unittest.TestCase):
    def test_the_hottest_first(self):
        sheet = strips([5, 6, 7], [1, 2, 3])
        paintings = [1, 0, 1, 1, 1, 2]
        self.assertEqual(told(200, sheet, [500, 0, 600, 0, 550, 0], paintings), [(1, [1]), (2, [2]), (0, [0])])

    def test_of_one_heat_by_number(self):
        sheet = strips([5, 6, 7], [3, 2, 1])
        paintings = [1, 0, 1, 1, 1, 2]
        self.assertEqual(told(200, sheet, [600, 3, 600, 2, 600, 1], paintings), [(0, [2]), (1, [1]), (2, [0])])
        self.assertEqual(told(200, sheet, [600, 3, 601, 2, 600, 1], paintings), [(1, [1]), (0, [2]), (2, [0])])

    def test_kinds_of_one_heat_are_not_put_together(self):
        sheet = strips([8, 8], [1, 2])
        self.assertEqual(told(GREATEST, sheet, [600, 0, 600, 0], [1, 0, 1, 1]), [(0, [0]), (1, [1])])

    def test_the_hold_does_not_count(self):
        sheet = strips([8, 8], [1, 2])
        self.assertEqual(told(GREATEST, sheet, [600, 0, 601, 9999], [1, 0, 1, 1]), [(1, [1]), (0, [0])])
        self.assertEqual(told(GREATEST, sheet, [600, 9999, 601, 0], [1, 0, 1, 1]), [(1, [1]), (0, [0])])

    def test_a_kind_that_no_pane_has(self):
        sheet = strips([8, 8], [1, 1])
        self.assertEqual(told(GREATEST, sheet, [700, 0, 600, 0, 500, 0], [1, 1, 2, 0, 2]), [(1, [0, 1])])

    def test_sixteen_kinds(self):
        sheet = strips([2] * 16, list(range(1, 17)))
        kinds = [number for kind in range(16) for number in (100 + kind, 0)]
        paintings = [number for kind in range(16) for number in (1, kind)]
        self.assertEqual(told(32, sheet, kinds, paintings), [(kind, [kind]) for kind in range(15, -1, -1)])


class Paintings(unittest.TestCase):
    def test_every_coat_is_in_a_load(self):
        sheet = strips([16], [1])
        kinds = [900, 0, 800, 0, 700, 0, 600, 0]
        for coats in range(1, 5):
            painting = [coats] + list(range(coats))
            self.assertEqual(told(256, sheet, kinds, painting), [(kind, [0]) for kind in range(coats)])

    def test_painting_0_is_not_fired(self):
        sheet = strips([8, 9, 10], [0, 1, 0])
        self.assertEqual(told(9 * 16, sheet, KINDS, [1, 0]), [(0, [1])])

    def test_paintings_are_numbered_from_1(self):
        kinds = [900, 0, 800, 0, 700, 0]
        paintings = [1, 2, 2, 0, 1, 1, 1]
        for painting, loads_told in ((1, [(2, [0])]), (2, [(0, [0]), (1, [0])]), (3, [(1, [0])])):
            self.assertEqual(told(256, strips([16], [painting]), kinds, paintings), loads_told)

    def test_paintings_that_no_mark_tells(self):
        self.assertEqual(told(256, strips([16], [2]), KINDS, [1, 0, 1, 0, 1, 0]), [(0, [0])])

    def test_256_paintings(self):
        sheet = strips([8, 8], [256, 255])
        self.assertEqual(told(256, sheet, [600, 0, 500, 0], [1, 0] * 255 + [1, 1]), [(0, [1]), (1, [0])])

    def test_both_bytes_of_a_painting_count(self):
        self.assertEqual(loads(256, strips([16], [257]).data(), KINDS, [1, 0]), [-3, 0])
        self.assertEqual(loads(256, strips([16], [256]).data(), KINDS, [1, 0]), [-3, 0])

    def test_the_glass_does_not_count(self):
        sheet = strips([8, 8], [1, 0])
        for glass in (0, 1, 65535):
            self.assertEqual(loads(256, sheet.data(glass), KINDS, [1, 0]), [0, 3, 0, 1, 0])


class Shelves(unittest.TestCase):
    def test_the_largest_first(self):
        sheet = strips([3, 9, 5, 7], [1] * 4)
        self.assertEqual(told(GREATEST, sheet, KINDS, [1, 0]), [(0, [1, 3, 2, 0])])

    def test_of_one_area_by_number(self):
        sheet = strips([4, 9, 4, 9, 4], [1] * 5)
        self.assertEqual(told(GREATEST, sheet, KINDS, [1, 0]), [(0, [1, 3, 0, 2, 4])])

    def test_of_one_area_but_of_another_form(self):
        # A pane of 8 by 20 and two of 16 by 10.
        sheet = drawn(24, 20, [[(16, 0), (16, 10), (16, 20)], [(0, 10), (16, 10)]],
                      [(1, 1, 1), (20, 2, 1), (1, 11, 1)])
        self.assertEqual(told(160, sheet, KINDS, [1, 0]), [(0, [0]), (0, [1]), (0, [2])])

    def test_one_pane_a_load(self):
        sheet = strips([9, 9, 9], [1] * 3)
        for shelf in (9 * 16, 2 * 9 * 16 - 1):
            self.assertEqual(told(shelf, sheet, KINDS, [1, 0]), [(0, [0]), (0, [1]), (0, [2])])

    def test_just_two_panes_a_load(self):
        sheet = strips([9, 9, 9], [1] * 3)
        for shelf in (2 * 9 * 16, 3 * 9 * 16 - 1):
            self.assertEqual(told(shelf, sheet, KINDS, [1, 0]), [(0, [0, 1]), (0, [2])])

    def test_all_panes_on_one_load(self):
        sheet = strips([9, 8, 7, 6], [1] * 4)
        for shelf in (30 * 16, GREATEST):
            self.assertEqual(told(shelf, sheet, KINDS, [1, 0]), [(0, [0, 1, 2, 3])])
        self.assertEqual(told(30 * 16 - 1, sheet, KINDS, [1, 0]), [(0, [0, 1, 2]), (0, [3])])

    def test_the_first_load_that_takes_it(self):
        # 10, 3 and 7, 6 and 4, 2 on a shelf of 13; 10, 2 and 7, 4 and 6, 3 on one of 12.
        sheet = strips([10, 7, 6, 4, 3, 2], [1] * 6)
        self.assertEqual(told(13 * 16, sheet, KINDS, [1, 0]), [(0, [0, 4]), (0, [1, 2]), (0, [3, 5])])
        self.assertEqual(told(12 * 16, sheet, KINDS, [1, 0]), [(0, [0, 5]), (0, [1, 3]), (0, [2, 4])])

    def test_a_pane_just_at_the_shelf(self):
        sheet = strips([8, 9], [1, 1])
        self.assertEqual(told(9 * 16, sheet, KINDS, [1, 0]), [(0, [1]), (0, [0])])
        self.assertEqual(loads(9 * 16 - 1, sheet.data(), KINDS, [1, 0]), [-3, 1])

    def test_a_shelf_of_0_and_of_the_greatest(self):
        sheet = strips([8, 9], [1, 1])
        self.assertEqual(loads(0, sheet.data(), KINDS, [1, 0]), [-3, 0])
        self.assertEqual(loads(1, sheet.data(), KINDS, [1, 0]), [-3, 0])
        self.assertEqual(told(GREATEST, sheet, KINDS, [1, 0]), [(0, [1, 0])])

    def test_each_kind_has_its_own_loads(self):
        sheet = strips([9, 9], [1, 2])
        kinds = [600, 0, 500, 0]
        self.assertEqual(told(9 * 16, sheet, kinds, [2, 0, 1, 1, 1]), [(0, [0]), (1, [0]), (1, [1])])


class Blanks(unittest.TestCase):
    """A pane's area is that of its blank: the shelf that just takes it tells."""

    def assert_areas(self, sheet, areas):
        for pane, area in enumerate(areas):
            marks = [mark[:2] + (1 if number == pane else 0,) for number, mark in enumerate(sheet.marks)]
            data = sheet.but(marks=marks).data()
            self.assertEqual(loads(area, list(data), KINDS, [1, 0]), [0, 3, 0, 1, pane])
            self.assertEqual(loads(area - 1, list(data), KINDS, [1, 0]), [-3, pane])

    def test_a_rectangle(self):
        self.assert_areas(drawn(16, 20, [], [(1, 1, 0)]), [320])
        self.assert_areas(CROSS, [400, 400, 800, 800])

    def test_triangles(self):
        self.assert_areas(drawn(16, 20, [[(0, 0), (16, 20)]], [(15, 1, 0), (1, 19, 0)]), [320, 320])
        self.assert_areas(drawn(40, 40, [[(0, 0), (10, 7), (40, 0)]], [(10, 1, 0), (1, 10, 0)]), [280, 1600])

    def test_many_corners(self):
        # The lower pane has its least x at one corner, its greatest at another, and so for y.
        ways = [[(10, 0), (12, 10), (3, 20), (13, 25), (14, 30), (20, 9), (37, 8), (20, 0)]]
        self.assert_areas(drawn(40, 40, ways, [(11, 1, 0), (1, 30, 0)]), [34 * 30, 1600])

    def test_corners_where_the_outline_goes_straight_on(self):
        ways = [[(0, 10), (7, 10), (16, 10)], [(7, 0), (7, 5), (7, 10)]]
        sheet = drawn(16, 16, ways, [(1, 1, 0), (8, 1, 0), (1, 12, 0)], [(3, 0), (0, 2), (16, 12), (4, 16)])
        self.assert_areas(sheet, [70, 90, 96])

    def test_the_largest(self):
        most = 1048575
        self.assert_areas(drawn(most, most, [], [(1, 1, 0)]), [most * most])
        self.assert_areas(drawn(most, most, [[(0, 0), (most, most)]], [(2, 1, 0), (1, 2, 0)]), [most * most] * 2)

    def test_beside_one_another(self):
        self.assert_areas(strips([2, 3, 20], [0] * 3, 50), [100, 150, 1000])


class Large(unittest.TestCase):
    def test_200_points(self):
        sheet = grid(19, 9, 4, [1] * 171)
        self.assertEqual(len(sheet.points), 200)
        found = told(10 * 16 + 15, sheet, KINDS, [1, 0])
        self.assertEqual(found, [(0, list(range(k, min(k + 10, 171)))) for k in range(0, 171, 10)])

    def test_200_points_and_many_triangles(self):
        side = 50000
        sheet = grid(19, 9, side)
        slant = [[(x * side, y * side), ((x + 1) * side, (y + 1) * side)] for x in range(19) for y in range(9)]
        level = [[(x * side, y * side) for x in range(20)] for y in range(10)]
        upright = [[(x * side, y * side) for y in range(10)] for x in range(20)]
        marks = [(x * side + 20, y * side + 10, 1) for x in range(19) for y in range(9)]
        marks += [(x * side + 10, y * side + 20, 2) for x in range(19) for y in range(9)]
        sheet = drawn(19 * side, 9 * side, slant + level + upright, marks)
        self.assertEqual((len(sheet.points), len(sheet.lines)), (200, 541))
        found = told(2 * side * side, sheet, [600, 0, 500, 0], [1, 1, 2, 0, 1])
        self.assertEqual([len(panes) for kind, panes in found], [2] * 85 + [1] + [2] * 171)
        self.assertEqual(found[0], (0, [19, 20]))
        self.assertEqual(found[86], (1, [0, 1]))

    def test_2048_marks(self):
        marks = [(1 + k % 90, 1 + k // 90, 0) for k in range(2048)]
        sheet = grid(19, 9, 100).but(marks=marks)
        self.assertEqual(loads(0, sheet.data(), KINDS, []), [-5, 12, sheet.mark_place(1)])
        sheet = sheet.but(marks=marks[:2047] + [(100, 99, 0)])
        self.assertEqual(loads(0, sheet.data(), KINDS, []), [-5, 11, sheet.mark_place(2047)])


class RefusedAtOnce(unittest.TestCase):
    """-1: kinds and paintings that may not be."""

    SHEET = strips([8, 8], [1, 0])

    def assert_refused(self, kinds, paintings):
        self.assertEqual(loads(GREATEST, self.SHEET.data(), list(kinds), list(paintings)), [-1])

    def assert_taken(self, kinds, paintings):
        answer = loads(GREATEST, self.SHEET.data(), list(kinds), list(paintings))
        self.assertEqual(answer[0], 0)

    def test_how_many_kinds(self):
        self.assert_refused([], [])
        self.assert_taken([600, 0], [1, 0])
        self.assert_taken([600, 0] * 16, [1, 0])
        for count in (17, 30):
            self.assert_refused([600, 0] * count, [1, 0])

    def test_a_list_that_ends_within_a_kind(self):
        for kinds in ([600], [600, 0, 600], [600, 0] * 15 + [600], [600, 0] * 16 + [600]):
            self.assert_refused(kinds, [1, 0])

    def test_heats_and_holds(self):
        kinds = [600, 5, 500, 0, 700, 9999]
        for place in range(6):
            bounds = ((1, 1400), (0, 9999))[place % 2]
            for number in bounds:
                self.assert_taken(changed(kinds, place, number), [1, 0])
            for number in beyond(bounds):
                self.assert_refused(changed(kinds, place, number), [1, 0])

    def test_how_many_paintings(self):
        self.assert_taken([600, 0], [1, 0] * 256)
        for count in (257, 300, 750):
            self.assert_refused([600, 0], [1, 0] * count)

    def test_how_many_coats(self):
        kinds = [600, 0, 500, 0, 400, 0, 300, 0, 200, 0]
        for coats in range(1, 5):
            self.assert_taken(kinds, [coats] + list(range(coats)))
        self.assert_refused(kinds, [5, 0, 1, 2, 3, 4])
        self.assert_refused(kinds, [0])
        self.assert_refused(kinds, [0, 0])
        self.assert_refused(kinds, [1, 0, 0])
        self.assert_refused(kinds, [1, 0, 0, 1, 0])
        self.assert_refused(kinds, [1, 0, 5, 0, 1, 2, 3, 4])
        self.assert_refused(kinds, [0] * 1500)
        for coats in (6, 2 ** 63, GREATEST):
            self.assert_refused(kinds, [coats] + [0] * 6)
            self.assert_refused(kinds, [1, 0, coats])

    def test_a_kind_that_is_not_told(self):
        kinds = [600, 0, 500, 0, 400, 0]
        self.assert_taken(kinds, [1, 2, 3, 0, 1, 2])
        for number in (3, 4, 15, 16, GREATEST):
            self.assert_refused(kinds, [1, number])
            self.assert_refused(kinds, [1, 0, 1, number])
            self.assert_refused(kinds, [2, 0, number])
            self.assert_refused(kinds, [2, number, 0])
            self.assert_refused(kinds, [3, 0, number, 2])

    def test_heats_that_rise_or_stay(self):
        kinds = [600, 0, 500, 0, 600, 7, 499, 0]
        self.assert_taken(kinds, [2, 0, 1, 2, 2, 1, 3, 0, 1, 3])
        for painting in ([2, 1, 0], [2, 0, 2], [2, 2, 0], [2, 0, 0], [3, 0, 1, 2], [3, 0, 1, 1], [3, 1, 0, 3],
                         [4, 0, 1, 3, 3], [4, 0, 1, 3, 1], [3, 0, 3, 1]):
            self.assert_refused(kinds, painting)
            self.assert_refused(kinds, [1, 0] + painting)
            self.assert_refused(kinds, painting + [1, 0])

    def test_heats_just_fall(self):
        self.assert_taken([600, 0, 599, 0], [2, 0, 1])
        self.assert_refused([600, 0, 600, 0], [2, 0, 1])
        self.assert_refused([600, 0, 601, 0], [2, 0, 1])

    def test_heats_of_another_painting_do_not_count(self):
        self.assert_taken([600, 0, 500, 0], [1, 1, 1, 0, 1, 0, 2, 0, 1])

    def test_a_list_that_ends_within_a_painting(self):
        kinds = [600, 0, 500, 0, 400, 0, 300, 0]
        whole = [1, 0, 4, 0, 1, 2, 3]
        self.assert_taken(kinds, whole)
        for size in (1, 3, 4, 5, 6):
            self.assert_refused(kinds, whole[:size])
        self.assert_refused([600, 0], [1, 0] * 255 + [1])

    def test_paintings_that_no_mark_tells_are_looked_at(self):
        self.assert_refused([600, 0], [1, 0, 1, 1])


class RefusedInOrder(unittest.TestCase):
    WRONG = strips([8, 8], [9, 9]).but(marks=[(1, 1, 9), (2, 1, 9)])

    def test_1_ahead_of_5(self):
        self.assertEqual(self.WRONG.data()[16], 2)
        for cartoon in ([], [0] * 20, self.WRONG.data()):
            self.assertEqual(loads(0, list(cartoon), [], []), [-1])
            self.assertEqual(loads(0, list(cartoon), [600, 0], [1, 1]), [-1])

    def test_1_ahead_of_3(self):
        self.assertEqual(loads(0, strips([8, 8], [1, 2]).data(), [600, 0], [1, 0, 0]), [-1])

    def test_5_ahead_of_3(self):
        self.assertEqual(loads(0, self.WRONG.data(), KINDS, [1, 0]), [-5, 12, self.WRONG.mark_place(1)])

    def test_5_is_three_numbers(self):
        self.assertEqual(loads(0, [], KINDS, []), [-5, 1, 0])

    def test_the_first_mark_that_does_not_go_with_the_paintings(self):
        sheet = strips([8, 8, 8, 8], [1, 2, 3, 4])
        for count, answer in ((0, [-3, 0]), (1, [-3, 1]), (2, [-3, 2]), (3, [-3, 3])):
            self.assertEqual(loads(GREATEST, sheet.data(), KINDS, [1, 0] * count), answer)
        self.assertEqual(told(GREATEST, sheet, KINDS, [1, 0] * 4), [(0, [0, 1, 2, 3])])
        self.assertEqual(loads(GREATEST, strips([16], [65535]).data(), KINDS, [1, 0] * 256), [-3, 0])

    def test_a_mark_ahead_of_a_pane_that_is_too_large(self):
        sheet = strips([9, 8, 8], [1, 1, 2])
        self.assertEqual(loads(0, sheet.data(), KINDS, [1, 0]), [-3, 2])
        self.assertEqual(loads(0, sheet.data(), KINDS, [1, 0, 1, 0]), [-3, 0])

    def test_the_first_pane_by_number_that_is_too_large(self):
        sheet = strips([8, 9, 10], [1, 1, 1])
        for shelf, pane in ((8 * 16 - 1, 0), (8 * 16, 1), (9 * 16 - 1, 1), (9 * 16, 2), (10 * 16 - 1, 2)):
            self.assertEqual(loads(shelf, sheet.data(), KINDS, [1, 0]), [-3, pane])
        self.assertEqual(loads(10 * 16, sheet.data(), KINDS, [1, 0])[0], 0)

    def test_by_number_not_by_kind(self):
        # Pane 0 has the cooler kind.
        sheet = strips([9, 9], [1, 2])
        self.assertEqual(loads(1, sheet.data(), [500, 0, 600, 0], [1, 0, 1, 1]), [-3, 0])

    def test_a_pane_without_a_painting_is_not_too_large(self):
        sheet = strips([30, 8], [0, 1])
        self.assertEqual(told(8 * 16, sheet, KINDS, [1, 0]), [(0, [1])])
        self.assertEqual(loads(8 * 16 - 1, sheet.data(), KINDS, [1, 0]), [-3, 1])


class ByItself(CallsByItself, unittest.TestCase):
    CALLS = [(320, strips([10, 20, 3], [1, 2, 1]).data(), [600, 5, 650, 5], [2, 1, 0, 1, 0]),
             (9, strips([10, 20, 3], [1, 2, 1]).data(), [600, 5, 650, 5], [2, 1, 0, 1, 0]),
             (9, CROSS.data()[:-1], [600, 5], []), (9, CROSS.data(), [600, 5], [1]), (9, [], [600], [1, 0]),
             (9, CROSS.data()[:-12], [600, 5], []), (9, strips([9, 9], [1, 2]).data(), [600, 5], [1, 0]),
             (900, CROSS.data(), [600, 5], []), (9, CROSS.but(marks=CROSS.marks[::-1]).data(), [600, 5], [])]

    def called(self, *given):
        return loads(*given)


class ByChance(unittest.TestCase):
    """Against the oracle, over cartoons and broken ones that are drawn from a fixed seed; and promise 3."""

    @classmethod
    def setUpClass(cls):
        draw = random.Random(43)
        cls.cases = []
        for _ in range(250):
            heats = some_heats(draw)
            paintings = some_paintings(draw, heats)
            sheet = some_sheet(draw, len(paintings))
            for other in [sheet, sheet, spoiled(draw, sheet), spoiled(draw, spoiled(draw, sheet))]:
                shelf = draw.randint(0, 2 * sheet.width * sheet.height)
                cls.cases.append((shelf, other.data(), heats, paintings))
        cls.answers = [cls.answer(case) for case in cls.cases]

    @classmethod
    def answer(cls, case):
        shelf, data, heats, paintings = case
        return loads(shelf, list(data), kinds_row(heats), paintings_row(paintings))

    def test_as_the_oracle_tells(self):
        for case, answer in zip(self.cases, self.answers):
            self.assertEqual(answer, oracle.expected(*case), case)

    def test_every_rule_and_refusal_is_met(self):
        rules = {answer[1] for answer in self.answers if answer[0] == -5}
        self.assertLessEqual({4, 5, 6, 7, 8, 9, 10, 11, 12, 13}, rules)
        self.assertIn(-3, [answer[0] for answer in self.answers])
        self.assertGreater(len([answer for answer in self.answers if answer[0] == 0 and answer[1] > 0]), 50)

    def test_3_promised_of_what_is_told(self):
        for (shelf, data, heats, paintings), answer in zip(self.cases, self.answers):
            if answer[0] != 0:
                continue
            panes = oracle.judged(data)[1]
            areas = [area for area, painting in panes]
            coats = {(kind, pane) for pane, (area, painting) in enumerate(panes) if painting
                     for kind in paintings[painting - 1]}
            found = loads_in(row_of(answer))
            self.assertEqual({kind for kind, numbers in found}, {kind for kind, pane in coats})
            # Each coat of each pane in just one load of its kind, no load over full, heats never rising.
            self.assertEqual(sorted((kind, pane) for kind, numbers in found for pane in numbers), sorted(coats))
            filled = [(kind, sum(areas[pane] for pane in numbers)) for kind, numbers in found]
            for k, (kind, area) in enumerate(filled):
                self.assertLessEqual(area, shelf)
                for before, area_before in filled[:k]:
                    self.assertGreaterEqual(heats[before], heats[kind])
                    if before == kind:
                        self.assertGreater(area + area_before, shelf)


if __name__ == "__main__":
    unittest.main()
