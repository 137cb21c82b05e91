"""Cartoons for tests: sheets that are drawn by ways, and their bytes."""


def number_bytes(number, size):
    return list(number.to_bytes(size, "little"))


class Sheet:
    """What a cartoon's bytes tell: points (x, y), lines (two numbers), marks (x, y, painting)."""

    def __init__(self, width, height, points, lines, marks):
        self.width = width
        self.height = height
        self.points = list(points)
        self.lines = list(lines)
        self.marks = list(marks)

    def but(self, **others):
        """The same sheet, but for what is handed in."""
        return Sheet(**{**vars(self), **others})

    def data(self, glass=0):
        numbers = number_bytes(len(self.points), 2) + number_bytes(len(self.lines), 2) + number_bytes(len(self.marks), 2)
        data = [71, 76, 65, 49] + number_bytes(self.width, 4) + number_bytes(self.height, 4) + numbers + [0, 0]
        for x, y in self.points:
            data += number_bytes(x, 4) + number_bytes(y, 4)
        for first, second in self.lines:
            data += number_bytes(first, 2) + number_bytes(second, 2)
        for x, y, painting in self.marks:
            data += number_bytes(x, 4) + number_bytes(y, 4) + number_bytes(glass, 2) + number_bytes(painting, 2)
        return data

    def point(self, place):
        return self.points.index(place)

    def line(self, place, other):
        return self.lines.index(tuple(sorted((self.point(place), self.point(other)))))

    def point_place(self, number):
        return 20 + 8 * number

    def line_place(self, number):
        return 20 + 8 * len(self.points) + 4 * number

    def mark_place(self, number):
        return 20 + 8 * len(self.points) + 4 * len(self.lines) + 12 * number


def by_y(place):
    return (place[1], place[0])


def frame_ways(width, height, places):
    """The four edges of the frame, through all places on them."""
    return [[place for place in places if place[1] == 0], [place for place in places if place[1] == height],
            [place for place in places if place[0] == 0], [place for place in places if place[0] == width]]


def drawn(width, height, ways, marks, alone=()):
    """A sheet with its frame and with lines along ways, each a row of places; alone are places without a way."""
    places = {(0, 0), (width, 0), (0, height), (width, height)} | set(alone)
    for way in ways:
        places |= set(way)
    points = sorted(places, key=by_y)
    lines = set()
    for way in list(ways) + frame_ways(width, height, points):
        for place, other in zip(way, way[1:]):
            lines.add(tuple(sorted((points.index(place), points.index(other)))))
    return Sheet(width, height, points, sorted(lines), sorted(marks, key=by_y))


def strips(widths, paintings, height=16):
    """Panes side by side: pane i is widths[i] wide and has paintings[i]."""
    ways = []
    marks = []
    left = 0
    for width, painting in zip(widths, paintings):
        marks.append((left + 1, 1, painting))
        left += width
        ways.append([(left, 0), (left, height)])
    return drawn(left, height, ways, marks)


def grid(across, up, side, paintings=None):
    """Panes that are squares, row by row from below."""
    ways = [[(x * side, y * side) for y in range(up + 1)] for x in range(across + 1)]
    ways += [[(x * side, y * side) for x in range(across + 1)] for y in range(up + 1)]
    marks = []
    for y in range(up):
        for x in range(across):
            painting = paintings[len(marks)] if paintings else 0
            marks.append((x * side + 1, y * side + 1, painting))
    return drawn(across * side, up * side, ways, marks)


# A frame of four points and four lines, one mark.
SMALLEST = drawn(16, 16, [], [(8, 8, 0)])

# Four panes about one point within.
CROSS = drawn(40, 60, [[(20, 0), (20, 20), (20, 60)], [(0, 20), (20, 20), (40, 20)]],
              [(10, 10, 0), (30, 10, 0), (10, 40, 0), (30, 40, 0)])
