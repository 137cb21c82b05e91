"""The promises, over the whole program: several calls together."""

import random
import unittest

from kilnloads.firing import at, check, heat, loads, time
from tests.drawn import grid, strips
from tests.rows import kinds_row, loads_in, paintings_row, row_of
from tests.some_firings import at_edges, is_right, some_firings, told_of
from tests.some_work import some_heats, some_paintings


def temperatures_of(program):
    """What at tells of each minute up to the program's time."""
    return [at(minute, list(program))[1] for minute in range(time(list(program))[1] + 1)]


def steps_of(case):
    """Each minute's step by which a glass may break: (which of the shop's numbers binds it, how far it goes)."""
    temperatures = temperatures_of(case["program"])
    s, a = 60 * case["s"], 60 * case["a"]
    steps = []
    for now, then in zip(temperatures, temperatures[1:]):
        if then > now and now < a:
            steps.append(("up", then - now))
        if then < now and now > s and then < a:
            steps.append(("down", now - then))
        if then < now and then < s:
            steps.append(("cool", now - then))
    return steps


class Firings(unittest.TestCase):
    @classmethod
    def setUpClass(cls):
        cases = some_firings(20000)
        answers = [told_of(case) for case in cases]
        cls.right = [case for case, answer in zip(cases, answers) if answer == [0]]
        cls.rules = {answer[1] for answer in answers if len(answer) == 3}
        cls.edges = [edge for case in cls.right[:150] for edge in at_edges(case)]

    def test_every_rule_is_met(self):
        self.assertGreater(len(self.right), 300)
        self.assertEqual(self.rules, {1, 2, 3, 4, 5, 6, 7})

    def test_1_segment_by_segment(self):
        # The time is the sum; every minute is what heat tells of its segment's going, then the target.
        for case in self.right:
            program = case["program"]
            first, begun = 20, 0
            temperatures = temperatures_of(program)
            self.assertEqual(temperatures[0], 1200)
            for k in range(0, len(program), 3):
                target, rate, hold = program[k:k + 3]
                lasts = time([first, 9999, 0, target, rate, hold])[1] - time([first, 9999, 0])[1]
                for minute in range(lasts + 1):
                    self.assertEqual([0, temperatures[begun + minute]], heat(first, target, rate, minute))
                    if minute > 0:
                        self.assertLessEqual(abs(temperatures[begun + minute] - temperatures[begun + minute - 1]), rate)
                self.assertEqual(temperatures[begun + lasts], 60 * target)
                first, begun = target, begun + lasts
            self.assertEqual(begun, time(list(program))[1])

    def test_2_no_minute_goes_faster_than_the_glass_lets(self):
        for case in self.right + self.edges:
            for name, step in steps_of(case):
                self.assertLessEqual(step * case["t"], case[name], case)

    def test_2_up_to_the_edge(self):
        # Of some right programs a step is just what the glass lets, of each of the three.
        met = {name for case in self.edges for name, step in steps_of(case) if step * case["t"] == case[name]}
        self.assertEqual(met, {"up", "down", "cool"})

    def test_2_and_4_the_edges_are_edges(self):
        for case in self.edges:
            self.assertTrue(is_right(case), case)
        for name in ("up", "down", "cool"):
            beyond = [{**case, name: case[name] - 1} for case in self.edges if case[name] > 1]
            self.assertGreater(len([case for case in beyond if not is_right(case)]), 50)
        beyond = [{**case, "t": case["t"] + 1} for case in self.edges if case["t"] < 500]
        self.assertGreater(len([case for case in beyond if not is_right(case)]), 50)

    def test_4_what_is_right_stays_right(self):
        for case in self.right + self.edges:
            for name in ("up", "down", "cool"):
                for number in (case[name] + 1, 1000000):
                    self.assertTrue(is_right({**case, name: number}), (case, name))
            for rest in range(0, case["rest"], 1 + case["rest"] // 20):
                self.assertTrue(is_right({**case, "rest": rest}), (case, rest))
            for t in range(1, case["t"]):
                self.assertTrue(is_right({**case, "t": t}), (case, t))

    def test_4_all_at_once(self):
        for case in self.right + self.edges:
            self.assertTrue(is_right({**case, "t": 1, "up": 1000000, "down": 1000000, "cool": 1000000, "rest": 0}))


class Loads(unittest.TestCase):
    """Promise 3, over sheets whose panes' areas are known by how they are drawn."""

    def assert_promised(self, shelf, sheet, areas, heats, paintings):
        row = row_of(loads(shelf, sheet.data(), kinds_row(heats), paintings_row(paintings)))
        self.assertEqual(check(shelf, sheet.data(), kinds_row(heats), paintings_row(paintings), list(row)), [0])
        found = loads_in(row)
        painted = {kind for x, y, painting in sheet.marks if painting for kind in paintings[painting - 1]}
        self.assertEqual({kind for kind, panes in found}, painted)
        filled = [(kind, sum(areas[pane] for pane in panes)) for kind, panes in found]
        for k, (kind, area) in enumerate(filled):
            for other, other_area in filled[:k]:
                if other == kind:
                    self.assertGreater(area + other_area, shelf)

    def test_3_strips(self):
        draw = random.Random(48)
        for _ in range(150):
            heats = some_heats(draw)
            paintings = some_paintings(draw, heats)
            widths = [draw.randint(2, 40) for _ in range(draw.randint(8, 30))]
            sheet = strips(widths, [draw.randint(0, len(paintings)) for _ in widths])
            shelf = 16 * draw.randint(max(widths), 3 * max(widths)) + draw.choice([0, 0, 1, 15])
            self.assert_promised(shelf, sheet, [16 * width for width in widths], heats, paintings)

    def test_3_squares(self):
        draw = random.Random(49)
        for across, up in ((1, 1), (3, 4), (19, 9), (9, 19)):
            heats = some_heats(draw)
            paintings = some_paintings(draw, heats)
            sheet = grid(across, up, 20, [draw.randint(0, len(paintings)) for _ in range(across * up)])
            for shelf in (400, 799, 800, 2000, 2 ** 64 - 1):
                self.assert_promised(shelf, sheet, [400] * (across * up), heats, paintings)


if __name__ == "__main__":
    unittest.main()
