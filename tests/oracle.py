"""What loads and check must answer, told a second time by other means: exact fractions, slabs and sets."""

import functools
import itertools
import struct
from fractions import Fraction


class Groups:
    """Things that are joined with one another."""

    def __init__(self, things):
        self.up = {thing: thing for thing in things}

    def head(self, thing):
        while self.up[thing] != thing:
            thing = self.up[thing]
        return thing

    def join(self, thing, other):
        self.up[self.head(thing)] = self.head(other)

    def same(self, thing, other):
        return self.head(thing) == self.head(other)


def lies_on(r, p, q):
    """On the line if the ways to its ends lead in opposite directions."""
    across = (p[0] - r[0]) * (q[1] - r[1]) - (p[1] - r[1]) * (q[0] - r[0])
    along = (p[0] - r[0]) * (q[0] - r[0]) + (p[1] - r[1]) * (q[1] - r[1])
    return across == 0 and along <= 0


def meet(p, q, r, s):
    """Whether two lines have a point in common that is an end of neither."""
    a, b = (q[0] - p[0], q[1] - p[1]), (s[0] - r[0], s[1] - r[1])
    det = a[0] * b[1] - a[1] * b[0]
    if det == 0:
        # In one row or side by side: any stretch in common has a middle that is no end.
        ends = sorted([p, q, r, s])
        middles = [(Fraction(e[0] + f[0], 2), Fraction(e[1] + f[1], 2)) for e, f in zip(ends, ends[1:]) if e != f]
        return any(lies_on(m, p, q) and lies_on(m, r, s) for m in middles)
    t = Fraction((r[0] - p[0]) * b[1] - (r[1] - p[1]) * b[0], det)
    u = Fraction((r[0] - p[0]) * a[1] - (r[1] - p[1]) * a[0], det)
    return 0 < t < 1 and 0 < u < 1


def height_at(line, x):
    p, q = line
    return p[1] + Fraction((q[1] - p[1]) * (x - p[0]), q[0] - p[0])


class Slabs:
    """The frame, cut upright at every point, into cells; joined cells are a pane."""

    def __init__(self, points, lines):
        self.xs = sorted({x for x, y in points})
        ends = [tuple(sorted((points[i], points[j]))) for i, j in lines]
        self.upright = [line for line in ends if line[0][0] == line[1][0]]
        self.cells = []
        for left, right in zip(self.xs, self.xs[1:]):
            over = [line for line in ends if line[0][0] <= left and line[1][0] >= right]
            over.sort(key=lambda line: height_at(line, left) + height_at(line, right))
            self.cells += [(left, right, low, high) for low, high in zip(over, over[1:])]
        self.groups = Groups(self.cells)
        for x in self.xs:
            before = [cell for cell in self.cells if cell[1] == x]
            behind = [cell for cell in self.cells if cell[0] == x]
            for cell, other in itertools.product(before, behind):
                if self.is_open(cell, other, x):
                    self.groups.join(cell, other)

    def is_open(self, cell, other, x):
        low = max(height_at(cell[2], x), height_at(other[2], x))
        high = min(height_at(cell[3], x), height_at(other[3], x))
        walls = [(p[1], q[1]) for p, q in self.upright if p[0] == x]
        if low >= high:
            return False
        cuts = sorted({low, high} | {y for wall in walls for y in wall if low < y < high})
        middles = [Fraction(y + z, 2) for y, z in zip(cuts, cuts[1:])]
        return any(all(not wall[0] < y < wall[1] for wall in walls) for y in middles)

    def pane_at(self, x, y):
        """The pane of a place that is on no line."""
        for cell in self.cells:
            if cell[0] <= x < cell[1] and height_at(cell[2], x) < y < height_at(cell[3], x):
                return self.groups.head(cell)
        raise LookupError((x, y))

    def panes(self):
        return {self.groups.head(cell) for cell in self.cells}

    def area(self, pane):
        cells = [cell for cell in self.cells if self.groups.head(cell) == pane]
        xs = [x for cell in cells for x in cell[:2]]
        ys = [height_at(line, x) for cell in cells for line in cell[2:] for x in cell[:2]]
        return (max(xs) - min(xs)) * (max(ys) - min(ys))


def comes_behind(place, other):
    return (place[1], place[0]) > (other[1], other[0])


def joined(points, lines, left_out=None):
    groups = Groups([i for i in range(len(points)) if i != left_out])
    for i, j in lines:
        if left_out not in (i, j):
            groups.join(i, j)
    return groups


def broken_head(data):
    if len(data) < 20:
        return [1, len(data)]
    head, w, h, p, l, m, zero = struct.unpack("<4sIIHHHH", bytes(data[:20]))
    if head != b"GLA1":
        return [1, 0]
    for place, fits in ((4, 16 <= w <= 1048575), (8, 16 <= h <= 1048575), (12, 4 <= p <= 4096), (14, 4 <= l <= 8192),
                        (16, 1 <= m <= 2048), (18, zero == 0)):
        if not fits:
            return [2, place]
    return [3, 20] if len(data) != 20 + 8 * p + 4 * l + 12 * m else []


def read(data):
    head, w, h, p, l, m, zero = struct.unpack("<4sIIHHHH", bytes(data[:20]))
    numbers = bytes(data)
    points = list(struct.iter_unpack("<II", numbers[20:20 + 8 * p]))
    lines = list(struct.iter_unpack("<HH", numbers[20 + 8 * p:20 + 8 * p + 4 * l]))
    marks = list(struct.iter_unpack("<IIHH", numbers[20 + 8 * p + 4 * l:]))
    return w, h, points, lines, marks


def broken_drawing(w, h, points, lines):
    """The rules 4 to 10: rule and number of the point or line; of rule 6 None."""
    for k, (x, y) in enumerate(points):
        if x > w or y > h or k > 0 and not comes_behind((x, y), points[k - 1]):
            return [4, k]
    for k, (i, j) in enumerate(lines):
        if i >= j or j >= len(points) or k > 0 and lines[k - 1] >= (i, j):
            return [5, k]
    if not {(0, 0), (w, 0), (0, h), (w, h)} <= set(points):
        return [6, None]
    for i, j in itertools.combinations(range(len(points)), 2):
        p, q = points[i], points[j]
        on_edge = p[0] == q[0] in (0, w) or p[1] == q[1] in (0, h)
        between = any(lies_on(r, p, q) for k, r in enumerate(points) if k not in (i, j))
        if on_edge and not between and (i, j) not in lines:
            return [6, None]
    return broken_lines(points, lines)


def broken_lines(points, lines):
    for k, (i, j) in enumerate(lines):
        ends = (points[i], points[j])
        if any(lies_on(r, *ends) for n, r in enumerate(points) if n not in (i, j)):
            return [7, k]
        if any(meet(*ends, points[a], points[b]) for a, b in lines[:k]):
            return [7, k]
    for k in range(len(points)):
        if sum(k in line for line in lines) < 2:
            return [8, k]
    groups = joined(points, lines)
    for k in range(len(points)):
        if not groups.same(k, 0):
            return [9, k]
    for k in range(len(points)):
        groups = joined(points, lines, k)
        if len({groups.head(i) for i in range(len(points)) if i != k}) > 1:
            return [10, k]
    return []


def broken_marks(w, h, points, lines, marks, slabs):
    """The rules 11 to 13: rule and number of the mark."""
    for k, mark in enumerate(marks):
        x, y = mark[:2]
        if not (0 < x < w and 0 < y < h) or any(lies_on((x, y), points[i], points[j]) for i, j in lines):
            return [11, k]
        if k > 0 and not comes_behind(mark, marks[k - 1]):
            return [11, k]
    seen = set()
    for k, mark in enumerate(marks):
        pane = slabs.pane_at(*mark[:2])
        if pane in seen:
            return [12, k]
        seen.add(pane)
    return [13, len(marks)] if slabs.panes() - seen else []


def judged(data):
    """The first rule that's broken and its place, or nothing; and the panes' areas and paintings."""
    broken = broken_head(data)
    if broken:
        return broken, []
    w, h, points, lines, marks = read(data)
    lines_from = 20 + 8 * len(points)
    broken = broken_drawing(w, h, points, lines)
    if broken:
        rule, number = broken
        if rule in (5, 7):
            return [rule, lines_from + 4 * number], []
        return ([6, 20] if rule == 6 else [rule, 20 + 8 * number]), []
    slabs = Slabs(points, lines)
    broken = broken_marks(w, h, points, lines, marks, slabs)
    if broken:
        return [broken[0], lines_from + 4 * len(lines) + 12 * broken[1]], []
    return [], [(slabs.area(slabs.pane_at(x, y)), painting) for x, y, glass, painting in marks]


def fitted(panes, areas, shelf):
    """First fit."""
    loads = []
    for pane in panes:
        fits = [load for load in loads if sum(areas[n] for n in load) + areas[pane] <= shelf]
        if fits:
            fits[0].append(pane)
        else:
            loads.append([pane])
    return loads


@functools.lru_cache(maxsize=4)
def judged_once(data):
    """For many calls with the same bytes."""
    return judged(data)


def looked_at(data, paintings):
    """The refusal that loads and check share, or nothing; and the panes' areas and coats."""
    broken, panes = judged_once(bytes(data))
    if broken:
        return [-5] + broken, [], []
    for k, (area, painting) in enumerate(panes):
        if painting > len(paintings):
            return [-3, k], [], []
    coats = [paintings[painting - 1] if painting else [] for area, painting in panes]
    return [], [area for area, painting in panes], coats


def expected(shelf, data, heats, paintings):
    """What loads answers: heats of the kinds, paintings as lists of kinds, all of which may be."""
    refusal, areas, coats = looked_at(data, paintings)
    if refusal:
        return refusal
    for k, area in enumerate(areas):
        if coats[k] and area > shelf:
            return [-3, k]
    row = []
    for heat, kind in sorted((-heat, kind) for kind, heat in enumerate(heats)):
        order = sorted((-areas[n], n) for n in range(len(areas)) if kind in coats[n])
        for load in fitted([n for area, n in order], areas, shelf):
            row += [kind, len(load)] + load
    return [0, len(row)] + row


def parted(row):
    """The loads of a row with their places; the last without panes where it isn't whole or has none."""
    place = 0
    while place < len(row):
        size = row[place + 1] if place + 1 < len(row) else 0
        panes = row[place + 2:place + 2 + size]
        if not panes or len(panes) < size:
            yield place, row[place], []
            return
        yield place, row[place], panes
        place += 2 + size


def wrong_in(load, heat_before, heats, areas, coats, seen, shelf):
    """All of 1 to 5 that is wrong with one load."""
    place, kind, panes = load
    wrong = []
    if not panes:
        wrong.append((1, place))
    if kind not in range(len(heats)):
        wrong.append((2, place))
    elif heats[kind] > heat_before:
        wrong.append((3, place))
    for k, pane in enumerate(panes):
        if (pane, kind) not in {(n, coat) for n, kinds in enumerate(coats) for coat in kinds} or (pane, kind) in seen:
            wrong.append((4, place + 2 + k))
        seen.add((pane, kind))
    if sum(areas[pane] for pane in panes if pane < len(areas)) > shelf:
        wrong.append((5, place))
    return wrong


def expected_of_row(shelf, data, heats, paintings, row):
    """What check answers: all that is wrong is gathered, load by load, and the least of it told."""
    refusal, areas, coats = looked_at(data, paintings)
    if refusal:
        return refusal
    seen = set()
    wrong = []
    heat_before = max(heats)
    for number, load in enumerate(parted(row)):
        wrong += [(number,) + told for told in wrong_in(load, heat_before, heats, areas, coats, seen, shelf)]
        heat_before = heats[load[1]] if load[1] < len(heats) else heat_before
    if {(n, coat) for n, kinds in enumerate(coats) for coat in kinds} - seen:
        wrong.append((len(row), 6, len(row)))
    return [0] + list(min(wrong)[1:]) if wrong else [0]
