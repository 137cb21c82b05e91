"""check: what is told of a row of loads, what is told first, the refusals, and what is promised of it."""

import random
import unittest

from kilnloads.firing import check, loads
from tests import oracle
from tests.by_itself import CallsByItself
from tests.drawn import CROSS, SMALLEST, drawn, grid, strips
from tests.rows import kinds_row, loads_in, paintings_row, row_from, row_of
from tests.samples import GREATEST, beyond, changed
from tests.some_sheets import some_sheet, spoiled
from tests.some_work import some_heats, some_paintings, spoiled_row

# The greatest number of a row.
MOST = 2 ** 32 - 1

# Areas 160, 320, 48, 128, 400; painting 1 has the kinds 1 and 0, painting 2 kind 0; pane 4 is not fired.
SHEET = strips([10, 20, 3, 8, 25], [1, 2, 1, 2, 0])
KINDS = [600, 5, 650, 5]
PAINTINGS = [2, 1, 0, 1, 0]
SHELF = 320
ROW = [1, 2, 0, 2, 0, 1, 1, 0, 2, 0, 3, 0, 1, 2]


def checked(row=ROW, shelf=SHELF, sheet=SHEET, kinds=KINDS, paintings=PAINTINGS):
    return check(shelf, sheet.data(), list(kinds), list(paintings), list(row))


class TheAnswer(unittest.TestCase):
    def test_what_loads_tells(self):
        self.assertEqual(row_of(loads(SHELF, SHEET.data(), list(KINDS), list(PAINTINGS))), ROW)
        self.assertEqual(checked(), [0])

    def test_two_numbers_are_told(self):
        self.assertEqual(checked(ROW[:-1]), [0, 1, 11])
        self.assertEqual(checked(ROW[:-3]), [0, 6, 11])

    def test_names_of_the_arguments(self):
        answer = check(shelf=SHELF, cartoon=SHEET.data(), kinds=list(KINDS), paintings=list(PAINTINGS), row=list(ROW))
        self.assertEqual(answer, [0])

    def test_answer_is_a_list_of_whole_numbers(self):
        for answer in (checked(), checked([]), checked([MOST]), checked(shelf=0), checked(kinds=[]),
                       checked(paintings=[]), checked(sheet=SHEET.but(marks=[(1, 1, 0)]))):
            self.assertIs(type(answer), list)
            self.assertEqual([type(number) for number in answer], [int] * len(answer))


class Told1(unittest.TestCase):
    """The row ends within a load, or a load has no pane: at the load's first number."""

    def test_the_row_ends_behind_a_kind(self):
        for size, place in ((1, 0), (5, 4), (8, 7), (12, 11)):
            self.assertEqual(checked(ROW[:size]), [0, 1, place])
        self.assertEqual(checked(ROW + [0]), [0, 1, 14])

    def test_the_row_ends_behind_the_number_of_panes(self):
        for size, place in ((2, 0), (6, 4), (9, 7), (13, 11)):
            self.assertEqual(checked(ROW[:size]), [0, 1, place])
        self.assertEqual(checked(ROW + [0, 1]), [0, 1, 14])

    def test_the_row_ends_within_the_panes(self):
        self.assertEqual(checked(ROW[:3]), [0, 1, 0])
        self.assertEqual(checked(ROW[:10]), [0, 1, 7])
        self.assertEqual(checked(changed(ROW, 12, 2)), [0, 1, 11])
        self.assertEqual(checked(changed(ROW, 8, 6)), [0, 1, 7])

    def test_the_row_ends_behind_a_load(self):
        for size in (0, 4, 7, 11):
            self.assertEqual(checked(ROW[:size]), [0, 6, size])

    def test_a_load_of_0_panes(self):
        self.assertEqual(checked([1, 0] + ROW), [0, 1, 0])
        self.assertEqual(checked(ROW[:4] + [0, 0] + ROW[4:]), [0, 1, 4])
        self.assertEqual(checked(ROW + [0, 0]), [0, 1, 14])
        self.assertEqual(checked([0, 0]), [0, 1, 0])

    def test_the_greatest_number_of_panes(self):
        self.assertEqual(checked(changed(ROW, 1, MOST)), [0, 1, 0])
        self.assertEqual(checked(changed(ROW, 8, MOST)), [0, 1, 7])
        self.assertEqual(checked([0, MOST]), [0, 1, 0])

    def test_a_number_of_panes_that_just_ends_the_row(self):
        self.assertEqual(checked([0, 4, 0, 1, 2, 3], shelf=GREATEST), [0, 6, 6])
        self.assertEqual(checked([0, 5, 0, 1, 2, 3], shelf=GREATEST), [0, 1, 0])
        self.assertEqual(checked([0, 3, 0, 1, 2, 3], shelf=GREATEST), [0, 1, 5])


class Told2(unittest.TestCase):
    """A kind that isn't told: its place."""

    def test_just_told_and_just_not(self):
        for kind, answer in ((1, [0]), (2, [0, 2, 0]), (3, [0, 2, 0]), (15, [0, 2, 0]), (16, [0, 2, 0]),
                             (MOST, [0, 2, 0])):
            self.assertEqual(checked(changed(ROW, 0, kind)), answer)
        for place in (4, 7, 11):
            self.assertEqual(checked(changed(ROW, place, 2)), [0, 2, place])

    def test_sixteen_kinds(self):
        sheet = strips([16], [1])
        kinds = [600, 0] * 16
        self.assertEqual(checked([15, 1, 0], GREATEST, sheet, kinds, [1, 15]), [0])
        self.assertEqual(checked([16, 1, 0], GREATEST, sheet, kinds, [1, 15]), [0, 2, 0])
        self.assertEqual(checked([15, 1, 0], GREATEST, sheet, kinds[:30], [1, 14]), [0, 2, 0])
        self.assertEqual(checked([14, 1, 0], GREATEST, sheet, kinds[:30], [1, 14]), [0])

    def test_a_kind_that_is_told_but_of_no_pane(self):
        self.assertEqual(checked([2] + ROW[1:], kinds=KINDS + [650, 5]), [0, 4, 2])


class Told3(unittest.TestCase):
    """A heat above the load's before: the kind's place."""

    SHEET = strips([8, 8], [1, 2])
    PAINTINGS = [1, 0, 1, 1]

    def test_above_the_same_and_below(self):
        row = [0, 1, 0, 1, 1, 1]
        for heat, answer in ((601, [0, 3, 3]), (600, [0]), (599, [0]), (1400, [0, 3, 3]), (1, [0])):
            self.assertEqual(checked(row, GREATEST, self.SHEET, [600, 0, heat, 0], self.PAINTINGS), answer)

    def test_only_the_load_before_counts(self):
        sheet = strips([8, 8, 8], [1, 2, 3])
        paintings = [1, 0, 1, 1, 1, 2]
        row = [0, 1, 0, 1, 1, 1, 2, 1, 2]
        self.assertEqual(checked(row, GREATEST, sheet, [700, 0, 500, 0, 600, 0], paintings), [0, 3, 6])
        self.assertEqual(checked(row, GREATEST, sheet, [700, 0, 500, 0, 500, 0], paintings), [0])
        self.assertEqual(checked(row, GREATEST, sheet, [500, 0, 600, 0, 400, 0], paintings), [0, 3, 3])

    def test_the_hold_does_not_count(self):
        row = [0, 1, 0, 1, 1, 1]
        self.assertEqual(checked(row, GREATEST, self.SHEET, [600, 0, 600, 9999], self.PAINTINGS), [0])
        self.assertEqual(checked(row, GREATEST, self.SHEET, [600, 9999, 601, 0], self.PAINTINGS), [0, 3, 3])

    def test_the_hottest_that_may_be(self):
        row = [0, 1, 0, 1, 1, 1]
        self.assertEqual(checked(row, GREATEST, self.SHEET, [1400, 0, 1400, 0], self.PAINTINGS), [0])
        self.assertEqual(checked(row, GREATEST, self.SHEET, [1399, 0, 1400, 0], self.PAINTINGS), [0, 3, 3])

    def test_a_cooler_kind_first(self):
        self.assertEqual(checked(ROW[4:] + ROW[:4]), [0, 3, 10])


class Told4(unittest.TestCase):
    """A pane that there isn't, that has no coat of this kind, or that had it before: its place."""

    def test_a_pane_that_there_is_not(self):
        self.assertEqual(checked(changed(ROW, 2, 5)), [0, 4, 2])
        self.assertEqual(checked(changed(ROW, 3, 5)), [0, 4, 3])
        self.assertEqual(checked(changed(ROW, 13, 5)), [0, 4, 13])
        self.assertEqual(checked(changed(ROW, 3, MOST)), [0, 4, 3])

    def test_the_last_pane_that_there_is(self):
        sheet = strips([8, 8], [1, 1])
        for row, answer in (([0, 2, 0, 1], [0]), ([0, 2, 1, 0], [0]), ([0, 2, 0, 2], [0, 4, 3])):
            self.assertEqual(checked(row, GREATEST, sheet, [600, 0], [1, 0]), answer)

    def test_a_pane_without_a_coat_of_this_kind(self):
        for pane in (1, 3):
            self.assertEqual(checked(changed(ROW, 2, pane)), [0, 4, 2])
            self.assertEqual(checked(changed(ROW, 3, pane)), [0, 4, 3])

    def test_a_pane_with_painting_0(self):
        for place in (2, 3, 6, 9, 10, 13):
            self.assertEqual(checked(changed(ROW, place, 4), shelf=GREATEST), [0, 4, place])
        self.assertEqual(checked([0, 1, 0], GREATEST, SMALLEST, [600, 0], [1, 0]), [0, 4, 2])
        self.assertEqual(checked([0, 1, 0], GREATEST, SMALLEST, [600, 0], []), [0, 4, 2])

    def test_before_in_the_same_load(self):
        self.assertEqual(checked(changed(ROW, 3, 0)), [0, 4, 3])
        self.assertEqual(checked(changed(ROW, 10, 0)), [0, 4, 10])
        self.assertEqual(checked([1, 3, 0, 2, 0] + ROW[4:], shelf=GREATEST), [0, 4, 4])

    def test_before_in_another_load(self):
        self.assertEqual(checked(changed(ROW, 9, 1), shelf=GREATEST), [0, 4, 9])
        self.assertEqual(checked(changed(ROW, 13, 0)), [0, 4, 13])
        self.assertEqual(checked(ROW + [0, 1, 3]), [0, 4, 16])
        self.assertEqual(checked(ROW[:4] + ROW), [0, 4, 6])

    def test_with_another_kind_before(self):
        # Pane 0 has both kinds, so its second coat is none that it had before.
        self.assertEqual(checked([1, 1, 0, 0, 1, 0, 0, 1, 0]), [0, 4, 8])
        self.assertEqual(checked([1, 1, 0, 0, 1, 0, 0, 1, 2]), [0, 6, 9])

    def test_with_a_load_of_another_kind_between(self):
        kinds = [600, 0, 600, 0]
        sheet = strips([8, 8], [1, 2])
        self.assertEqual(checked([0, 1, 0, 1, 1, 1, 0, 1, 0], GREATEST, sheet, kinds, [1, 0, 1, 1]), [0, 4, 8])

    def test_the_first_of_several(self):
        self.assertEqual(checked([0, 4, 0, 9, 0, 4], shelf=GREATEST), [0, 4, 3])
        self.assertEqual(checked([0, 4, 0, 0, 9, 4], shelf=GREATEST), [0, 4, 3])
        self.assertEqual(checked([0, 4, 0, 4, 9, 0], shelf=GREATEST), [0, 4, 3])


class Told5(unittest.TestCase):
    """A load's areas are together above the shelf: the kind's place."""

    def test_just_at_the_shelf_and_just_above(self):
        sheet = strips([9, 8, 7], [1, 1, 1])
        for row, area in (([0, 3, 0, 1, 2], 24), ([0, 2, 0, 1, 0, 1, 2], 17), ([0, 1, 0, 0, 1, 1, 0, 1, 2], 9)):
            self.assertEqual(checked(row, area * 16, sheet, [600, 0], [1, 0]), [0])
            self.assertEqual(checked(row, area * 16 + 1, sheet, [600, 0], [1, 0]), [0])
            self.assertEqual(checked(row, area * 16 - 1, sheet, [600, 0], [1, 0]), [0, 5, 0])

    def test_a_later_load(self):
        self.assertEqual(checked(shelf=319), [0, 5, 4])
        row = [1, 2, 0, 2, 0, 1, 1, 0, 3, 0, 3, 2]
        self.assertEqual(checked(row, shelf=336), [0])
        self.assertEqual(checked(row, shelf=335), [0, 5, 7])

    def test_each_load_by_itself(self):
        sheet = strips([8, 8, 8], [1, 1, 1])
        row = [0, 1, 0, 0, 1, 1, 0, 1, 2]
        self.assertEqual(checked(row, 128, sheet, [600, 0], [1, 0]), [0])

    def test_a_shelf_of_0_and_of_the_greatest(self):
        self.assertEqual(checked(shelf=0), [0, 5, 0])
        self.assertEqual(checked(shelf=GREATEST), [0])
        self.assertEqual(checked([], 0, SMALLEST, [600, 0], []), [0])

    def test_areas_are_those_of_blanks(self):
        # Two triangles, each with the whole frame as its blank.
        sheet = drawn(16, 20, [[(0, 0), (16, 20)]], [(15, 1, 1), (1, 19, 1)])
        self.assertEqual(checked([0, 2, 0, 1], 640, sheet, [600, 0], [1, 0]), [0])
        self.assertEqual(checked([0, 2, 0, 1], 639, sheet, [600, 0], [1, 0]), [0, 5, 0])

    def test_the_largest(self):
        most = 1048575
        sheet = drawn(most, most, [[(0, 0), (most, most)]], [(2, 1, 1), (1, 2, 1)])
        self.assertEqual(checked([0, 2, 0, 1], 2 * most * most, sheet, [600, 0], [1, 0]), [0])
        self.assertEqual(checked([0, 2, 0, 1], 2 * most * most - 1, sheet, [600, 0], [1, 0]), [0, 5, 0])

    def test_a_pane_above_the_shelf(self):
        # In a load it is 5, in none 6; of loads it is refused.
        sheet = strips([9, 8], [1, 1])
        self.assertEqual(loads(143, sheet.data(), [600, 0], [1, 0]), [-3, 0])
        self.assertEqual(checked([0, 1, 1, 0, 1, 0], 143, sheet, [600, 0], [1, 0]), [0, 5, 3])
        self.assertEqual(checked([0, 1, 1], 143, sheet, [600, 0], [1, 0]), [0, 6, 3])
        self.assertEqual(checked([], 0, sheet, [600, 0], [1, 0]), [0, 6, 0])

    def test_a_pane_above_the_shelf_that_is_not_fired(self):
        sheet = strips([30, 8], [0, 1])
        self.assertEqual(checked([0, 1, 1], 128, sheet, [600, 0], [1, 0]), [0])


class Told6(unittest.TestCase):
    """A pane's coat is in no load: at how many numbers there are."""

    def test_an_empty_row(self):
        self.assertEqual(checked([]), [0, 6, 0])
        self.assertEqual(checked([], sheet=SMALLEST), [0])
        self.assertEqual(checked([], sheet=SMALLEST, paintings=[]), [0])
        self.assertEqual(checked([], sheet=CROSS), [0])

    def test_a_load_is_left_out(self):
        found = loads_in(ROW)
        for number in range(len(found)):
            row = row_from(found[:number] + found[number + 1:])
            self.assertEqual(checked(row), [0, 6, len(row)])

    def test_a_pane_is_left_out(self):
        self.assertEqual(checked([1, 1, 2] + ROW[4:]), [0, 6, 13])
        self.assertEqual(checked(ROW[:7] + [0, 1, 0, 0, 1, 2]), [0, 6, 13])

    def test_each_coat_counts(self):
        sheet = strips([16], [1])
        kinds = [900, 0, 800, 0, 700, 0, 600, 0]
        row = [0, 1, 0, 1, 1, 0, 2, 1, 0, 3, 1, 0]
        self.assertEqual(checked(row, 256, sheet, kinds, [4, 0, 1, 2, 3]), [0])
        for left_out in range(4):
            fewer = row[:3 * left_out] + row[3 * left_out + 3:]
            self.assertEqual(checked(fewer, 256, sheet, kinds, [4, 0, 1, 2, 3]), [0, 6, 9])

    def test_paintings_that_no_mark_tells_do_not_count(self):
        sheet = strips([16], [2])
        self.assertEqual(checked([0, 1, 0], 256, sheet, KINDS, [1, 1, 1, 0, 2, 1, 0]), [0])


class OfTwoTheFirst(unittest.TestCase):
    def test_1_ahead_of_2(self):
        self.assertEqual(checked([2]), [0, 1, 0])
        self.assertEqual(checked([MOST, 0]), [0, 1, 0])
        self.assertEqual(checked([2, 3, 0, 1]), [0, 1, 0])
        self.assertEqual(checked(ROW + [2]), [0, 1, 14])

    def test_1_ahead_of_3(self):
        self.assertEqual(checked(ROW + [1, 0]), [0, 1, 14])
        self.assertEqual(checked(ROW + [1, 2, 0]), [0, 1, 14])

    def test_1_ahead_of_4_and_5(self):
        self.assertEqual(checked([0, 3, 9, 0]), [0, 1, 0])
        self.assertEqual(checked([0, 4, 0, 1, 2]), [0, 1, 0])

    def test_2_ahead_of_4_and_5(self):
        self.assertEqual(checked([2, 1, 9]), [0, 2, 0])
        self.assertEqual(checked([2, 2, 1, 0]), [0, 2, 0])

    def test_3_ahead_of_4(self):
        self.assertEqual(checked([0, 1, 0, 1, 1, 9]), [0, 3, 3])
        self.assertEqual(checked([0, 1, 0, 1, 1, 1]), [0, 3, 3])

    def test_3_ahead_of_5(self):
        self.assertEqual(checked([0, 1, 3, 1, 2, 0, 2], shelf=207), [0, 3, 3])
        self.assertEqual(checked([1, 2, 0, 2], shelf=207), [0, 5, 0])

    def test_4_ahead_of_5(self):
        self.assertEqual(checked([0, 3, 1, 0, 9]), [0, 4, 4])
        self.assertEqual(checked([0, 3, 1, 0, 4]), [0, 4, 4])
        self.assertEqual(checked([0, 3, 1, 0, 3]), [0, 5, 0])
        self.assertEqual(checked([0, 2, 1, 1]), [0, 4, 3])

    def test_6_behind_the_row_alone(self):
        # Each row leaves coats out.
        for row, answer in (([1], [0, 1, 0]), ([2, 1, 0], [0, 2, 0]), ([0, 1, 0, 1, 1, 0], [0, 3, 3]),
                            ([1, 1, 1], [0, 4, 2]), ([0, 2, 1, 0], [0, 5, 0]), ([1, 1, 0], [0, 6, 3])):
            self.assertEqual(checked(row), answer)

    def test_an_earlier_load_ahead_of_a_later(self):
        # By itself each load is wrong in one way; behind it stand loads that are wrong in every way.
        wrong = {2: [7, 1, 0], 3: [1, 1, 0], 4: [0, 1, 9], 5: [0, 2, 1, 0]}
        for which, load in wrong.items():
            head = [0, 1, 3]
            place = 3 + (2 if which == 4 else 0)
            self.assertEqual(checked(head + load), [0, which, place])
            for other in list(wrong.values()) + [[0], [0, 0], [0, 5, 1]]:
                self.assertEqual(checked(head + load + other), [0, which, place])
        self.assertEqual(checked([0, 1, 3, 0, 0, 7, 1, 0]), [0, 1, 3])

    def test_a_right_load_ahead_of_one_that_is_cut(self):
        self.assertEqual(checked(ROW[:4] + [0, 3, 1, 0]), [0, 1, 4])

    def test_a_wrong_load_ahead_of_one_that_is_cut(self):
        self.assertEqual(checked([0, 2, 1, 0, 0]), [0, 5, 0])
        self.assertEqual(checked([0, 1, 9, 0, 1]), [0, 4, 2])


class Taken(unittest.TestCase):
    """Rows that loads doesn't tell, but which are loads of the panes too."""

    def test_loads_of_one_kind_in_another_order(self):
        kind_1, first, second, third = loads_in(ROW)
        for found in ([kind_1, second, first, third], [kind_1, third, second, first], [kind_1, second, third, first]):
            self.assertEqual(checked(row_from(found)), [0])

    def test_panes_in_another_order(self):
        self.assertEqual(checked([1, 2, 2, 0] + ROW[4:]), [0])
        self.assertEqual(checked(ROW[:9] + [3, 0] + ROW[11:]), [0])

    def test_panes_on_other_loads(self):
        self.assertEqual(checked(ROW[:4] + [0, 1, 1, 0, 2, 0, 2, 0, 1, 3]), [0])
        self.assertEqual(checked(ROW[:4] + [0, 1, 1, 0, 2, 2, 3, 0, 1, 0]), [0])

    def test_more_loads_than_needed(self):
        row = [1, 1, 0, 1, 1, 2, 0, 1, 0, 0, 1, 1, 0, 1, 2, 0, 1, 3]
        for shelf in (SHELF, GREATEST):
            self.assertEqual(checked(row, shelf), [0])

    def test_fewer_loads_than_loads_tells(self):
        # On 14, loads puts 6, 6 and 4, 4, 4 and 4; but 6, 4, 4 and 6, 4, 4 do too.
        sheet = strips([6, 6, 4, 4, 4, 4], [1] * 6)
        told = row_of(loads(14 * 16, sheet.data(), [600, 0], [1, 0]))
        self.assertEqual(loads_in(told), [(0, [0, 1]), (0, [2, 3, 4]), (0, [5])])
        for row in (told, [0, 3, 0, 2, 3, 0, 3, 1, 4, 5], [0, 3, 5, 1, 3, 0, 3, 2, 0, 4]):
            self.assertEqual(checked(row, 14 * 16, sheet, [600, 0], [1, 0]), [0])

    def test_kinds_of_one_heat_changed_about(self):
        sheet = strips([8, 8], [1, 2])
        for row in ([0, 1, 0, 1, 1, 1], [1, 1, 1, 0, 1, 0]):
            self.assertEqual(checked(row, GREATEST, sheet, [600, 0, 600, 0], [1, 0, 1, 1]), [0])

    def test_another_kind_of_the_same_heat_between(self):
        sheet = strips([8, 8, 8, 8], [1, 1, 2, 2])
        for row in ([0, 1, 0, 1, 1, 2, 0, 1, 1, 1, 1, 3], [1, 1, 3, 0, 2, 0, 1, 1, 1, 2]):
            self.assertEqual(checked(row, GREATEST, sheet, [600, 0, 600, 0], [1, 0, 1, 1]), [0])

    def test_the_glass_does_not_count(self):
        for glass in (0, 1, 65535):
            self.assertEqual(check(SHELF, SHEET.data(glass), list(KINDS), list(PAINTINGS), list(ROW)), [0])


class RefusedAtOnce(unittest.TestCase):
    """-1, as of loads, whatever the row."""

    def assert_refused(self, kinds, paintings):
        for row in ([], [0, 1, 0], [MOST]):
            self.assertEqual(checked(row, GREATEST, strips([8, 8], [1, 0]), kinds, paintings), [-1])

    def assert_taken(self, kinds, paintings):
        self.assertEqual(checked([], GREATEST, SMALLEST, kinds, paintings), [0])

    def test_how_many_kinds(self):
        self.assert_taken([600, 0], [1, 0])
        self.assert_taken([600, 0] * 16, [1, 0])
        for kinds in ([], [600, 0] * 17, [600, 0] * 30):
            self.assert_refused(kinds, [])

    def test_a_list_that_ends_within_a_kind(self):
        for kinds in ([600], [600, 0, 600], [600, 0] * 15 + [600], [600, 0] * 16 + [600]):
            self.assert_refused(kinds, [1, 0])

    def test_heats_and_holds(self):
        kinds = [600, 5, 500, 0]
        for place in range(4):
            bounds = ((1, 1400), (0, 9999))[place % 2]
            for number in bounds:
                self.assert_taken(changed(kinds, place, number), [1, 0])
            for number in beyond(bounds):
                self.assert_refused(changed(kinds, place, number), [1, 0])

    def test_how_many_paintings(self):
        self.assert_taken([600, 0], [])
        self.assert_taken([600, 0], [1, 0] * 256)
        for count in (257, 750):
            self.assert_refused([600, 0], [1, 0] * count)

    def test_paintings_that_may_not_be(self):
        kinds = [900, 0, 800, 0, 700, 0, 600, 0, 500, 0]
        self.assert_taken(kinds, [1, 4, 4, 1, 2, 3, 4])
        for painting in ([0], [5, 0, 1, 2, 3, 4], [GREATEST, 0], [1, 5], [1, GREATEST], [2, 1, 0], [2, 0, 0], [1],
                         [2, 0], [4, 0, 1, 2], [3, 0, 1, 5]):
            self.assert_refused(kinds, painting)
            self.assert_refused(kinds, [1, 0] + painting)
        self.assert_refused([600, 0, 600, 0], [2, 0, 1])
        self.assert_refused([600, 0, 601, 0], [2, 0, 1])


class RefusedInOrder(unittest.TestCase):
    WRONG = strips([8, 8], [9, 9]).but(marks=[(1, 1, 9), (2, 1, 9)])
    ROWS = ([], [0], [0, 0], [0, 1, 0], [MOST], [9, 1, 0])

    def assert_answer(self, answer, cartoon, kinds, paintings):
        for row in self.ROWS:
            self.assertEqual(check(0, list(cartoon), list(kinds), list(paintings), list(row)), answer)

    def test_1_ahead_of_5(self):
        for cartoon in ([], [0] * 20, self.WRONG.data()):
            self.assert_answer([-1], cartoon, [], [])
            self.assert_answer([-1], cartoon, [600, 0], [1, 1])

    def test_1_ahead_of_3(self):
        self.assert_answer([-1], strips([8, 8], [1, 2]).data(), [600, 0], [1, 0, 0])

    def test_5_ahead_of_3(self):
        self.assert_answer([-5, 12, self.WRONG.mark_place(1)], self.WRONG.data(), [600, 0], [1, 0])

    def test_5_of_some_rules(self):
        self.assert_answer([-5, 1, 0], [], [600, 0], [])
        self.assert_answer([-5, 1, 19], [0] * 19, [600, 0], [])
        self.assert_answer([-5, 1, 0], [0] * 20, [600, 0], [])
        self.assert_answer([-5, 2, 4], CROSS.but(width=15).data(), [600, 0], [])
        self.assert_answer([-5, 3, 20], CROSS.data()[:-1], [600, 0], [])
        self.assert_answer([-5, 11, CROSS.mark_place(1)], CROSS.but(marks=CROSS.marks[::-1]).data(), [600, 0], [])
        fewer = CROSS.but(marks=CROSS.marks[:-1])
        self.assert_answer([-5, 13, len(fewer.data())], fewer.data(), [600, 0], [])

    def test_the_first_mark_that_does_not_go_with_the_paintings(self):
        cartoon = strips([8, 8, 8, 8], [1, 2, 3, 4]).data()
        for count in range(4):
            self.assert_answer([-3, count], cartoon, [600, 0], [1, 0] * count)
        self.assert_answer([-3, 0], strips([16], [65535]).data(), [600, 0], [1, 0] * 256)
        self.assertEqual(check(0, cartoon, [600, 0], [1, 0] * 4, []), [0, 6, 0])

    def test_the_first_mark_whatever_the_panes_areas(self):
        self.assert_answer([-3, 2], strips([9, 8, 8], [1, 1, 2]).data(), [600, 0], [1, 0])


class Large(unittest.TestCase):
    def test_30000_numbers(self):
        one_load = [0, 29998] + [0] * 29998
        self.assertEqual(checked(one_load), [0, 4, 3])
        self.assertEqual(checked(changed(one_load, 1, 29999)), [0, 1, 0])
        self.assertEqual(checked([0, 1, 0] * 10000), [0, 4, 5])
        self.assertEqual(checked([0] * 30000), [0, 1, 0])
        self.assertEqual(checked([MOST] * 30000), [0, 1, 0])
        self.assertEqual(checked((ROW * 2143)[:30000]), [0, 3, 14])

    def test_30000_numbers_behind_right_loads(self):
        sheet = grid(19, 9, 4, [1] * 171)
        right = [number for pane in range(171) for number in (0, 1, pane)]
        self.assertEqual(checked(right, 16, sheet, [600, 0], [1, 0]), [0])
        left = 30000 - len(right)
        for behind, answer in (([0, left - 2] + [170] * (left - 2), [0, 4, 515]),
                               ([0, left - 1] + [170] * (left - 2), [0, 1, 513]),
                               ([1, left - 2] + [170] * (left - 2), [0, 2, 513])):
            row = right + behind
            self.assertEqual(len(row), 30000)
            self.assertEqual(checked(row, 16, sheet, [600, 0], [1, 0]), answer)

    def test_200_points_and_four_coats(self):
        sheet = grid(19, 9, 4, [1] * 171)
        kinds = [900, 0, 800, 0, 700, 0, 600, 0]
        row = [number for kind in range(4) for pane in range(171) for number in (kind, 1, pane)]
        self.assertEqual(checked(row, 16, sheet, kinds, [4, 0, 1, 2, 3]), [0])
        self.assertEqual(checked(row[:-3], 16, sheet, kinds, [4, 0, 1, 2, 3]), [0, 6, 2049])
        self.assertEqual(checked(changed(row, 2051, 0), 16, sheet, kinds, [4, 0, 1, 2, 3]), [0, 4, 2051])


class ByItself(CallsByItself, unittest.TestCase):
    CALLS = [(SHELF, SHEET.data(), KINDS, PAINTINGS, ROW), (0, SHEET.data(), KINDS, PAINTINGS, ROW),
             (SHELF, SHEET.data(), KINDS, PAINTINGS, ROW[:-1]), (SHELF, SHEET.data(), KINDS, PAINTINGS, []),
             (SHELF, SHEET.data(), KINDS, PAINTINGS, changed(ROW, 3, 0)),
             (SHELF, SHEET.data(), KINDS, PAINTINGS, changed(ROW, 0, MOST)),
             (SHELF, SHEET.data(), KINDS, PAINTINGS, ROW[4:] + ROW[:4]), (SHELF, SHEET.data(), KINDS, [], ROW),
             (SHELF, SHEET.data()[:-1], KINDS, PAINTINGS, ROW), (SHELF, SHEET.data(), [600], PAINTINGS, ROW),
             (SHELF, SHEET.data(), KINDS, [2, 1], ROW), (0, CROSS.data(), KINDS, [], [])]

    def called(self, *given):
        return check(*given)


class ByChance(unittest.TestCase):
    """Against the oracle, over rows of loads and changed ones that are drawn from a fixed seed; and promise 3."""

    @classmethod
    def setUpClass(cls):
        draw = random.Random(44)
        cls.right = []
        cls.cases = []
        for _ in range(250):
            heats = some_heats(draw)
            paintings = some_paintings(draw, heats)
            sheet = some_sheet(draw, len(paintings))
            shelf = draw.randint(sheet.width * sheet.height // 2, 2 * sheet.width * sheet.height)
            given = (shelf, sheet.data(), heats, paintings)
            answer = loads(shelf, sheet.data(), kinds_row(heats), paintings_row(paintings))
            row = row_of(answer) if answer[0] == 0 else []
            cls.cases.append((shelf, spoiled(draw, sheet).data(), heats, paintings, row))
            if answer[0] == 0:
                cls.right.append(given + (row,))
            if answer[0] == -5:
                continue
            cls.cases.append((shelf, sheet.data(), heats, paintings[:-1], row))
            for _ in range(12):
                less = draw.choice([0, 0, 0, draw.randint(0, shelf)])
                cls.cases.append((shelf - less,) + given[1:] + (spoiled_row(draw, row, len(sheet.marks)),))
        cls.answers = [cls.answer(case) for case in cls.cases]

    @classmethod
    def answer(cls, case):
        shelf, data, heats, paintings, row = case
        return check(shelf, list(data), kinds_row(heats), paintings_row(paintings), list(row))

    def test_3_what_loads_tells_is_taken(self):
        self.assertGreater(len([case for case in self.right if case[4]]), 60)
        for case in self.right:
            self.assertEqual(self.answer(case), [0], case)

    def test_as_the_oracle_tells(self):
        for case, answer in zip(self.cases, self.answers):
            self.assertEqual(answer, oracle.expected_of_row(*case), case)

    def test_all_is_met(self):
        for which in range(1, 7):
            self.assertGreater(len([answer for answer in self.answers if answer[:2] == [0, which]]), 20, which)
        self.assertGreater(self.answers.count([0]), 50)
        self.assertEqual({answer[0] for answer in self.answers}, {0, -3, -5})


if __name__ == "__main__":
    unittest.main()
