"""Cartoons and their bytes: what they tell, the places in them, and the rules 1 to 5."""

from kilnloads.bounds import is_within
from kilnloads.points import Point, is_behind

# GLA1
FIRST_BYTES = (71, 76, 65, 49)
HEAD_SIZE = 20
POINT_SIZE = 8
LINE_SIZE = 4
MARK_SIZE = 12

# The numbers of the head behind its first bytes: place, how many bytes, least, greatest.
HEAD_NUMBERS = (
    (4, 4, 16, 1048575),
    (8, 4, 16, 1048575),
    (12, 2, 4, 4096),
    (14, 2, 4, 8192),
    (16, 2, 1, 2048),
    (18, 2, 0, 0),
)


class NoCartoon(ValueError):
    """Bytes that are no cartoon: the first rule that they break, and its place."""

    def __init__(self, rule, place):
        self.rule = rule
        self.place = place


class Mark:
    """A mark: where it is, and the number of its pane's painting."""

    def __init__(self, x, y, painting):
        self.x = x
        self.y = y
        self.painting = painting


class Cartoon:
    """What bytes tell: the frame, the points, the lines (each the numbers of two points), the marks."""

    def __init__(self, width, height, points, lines, marks):
        self.width = width
        self.height = height
        self.points = points
        self.lines = lines
        self.marks = marks


def number_at(data, place, size):
    """The number in so many bytes, the lowest byte first."""
    number = 0
    for byte in reversed(data[place:place + size]):
        number = number * 256 + byte
    return number


def point_place(number):
    return HEAD_SIZE + POINT_SIZE * number


def line_place(cartoon, number):
    return point_place(len(cartoon.points)) + LINE_SIZE * number


def mark_place(cartoon, number):
    return line_place(cartoon, len(cartoon.lines)) + MARK_SIZE * number


def lines_from(data):
    return HEAD_SIZE + POINT_SIZE * number_at(data, 12, 2)


def marks_from(data):
    return lines_from(data) + LINE_SIZE * number_at(data, 14, 2)


def marks_end(data):
    return marks_from(data) + MARK_SIZE * number_at(data, 16, 2)


def judge_head(data):
    """The rules 1 to 3."""
    if len(data) < HEAD_SIZE:
        raise NoCartoon(1, len(data))
    if tuple(data[:4]) != FIRST_BYTES:
        raise NoCartoon(1, 0)
    for place, size, least, greatest in HEAD_NUMBERS:
        if not is_within(number_at(data, place, size), least, greatest):
            raise NoCartoon(2, place)
    if len(data) != marks_end(data):
        raise NoCartoon(3, HEAD_SIZE)


def point_at(data, place):
    return Point(number_at(data, place, 4), number_at(data, place + 4, 4))


def line_at(data, place):
    return (number_at(data, place, 2), number_at(data, place + 2, 2))


def mark_at(data, place):
    return Mark(number_at(data, place, 4), number_at(data, place + 4, 4), number_at(data, place + 10, 2))


def told_by(data):
    """What bytes tell that break none of the rules 1 to 3."""
    points = [point_at(data, place) for place in range(HEAD_SIZE, lines_from(data), POINT_SIZE)]
    lines = [line_at(data, place) for place in range(lines_from(data), marks_from(data), LINE_SIZE)]
    marks = [mark_at(data, place) for place in range(marks_from(data), marks_end(data), MARK_SIZE)]
    return Cartoon(number_at(data, 4, 4), number_at(data, 8, 4), points, lines, marks)


def judge_points(cartoon):
    """Rule 4."""
    points = cartoon.points
    for number, point in enumerate(points):
        if point.x > cartoon.width or point.y > cartoon.height:
            raise NoCartoon(4, point_place(number))
        if number > 0 and not is_behind(point, points[number - 1]):
            raise NoCartoon(4, point_place(number))


def judge_lines(cartoon):
    """Rule 5."""
    lines = cartoon.lines
    for number, line in enumerate(lines):
        if line[0] >= line[1] or line[1] >= len(cartoon.points):
            raise NoCartoon(5, line_place(cartoon, number))
        if number > 0 and line <= lines[number - 1]:
            raise NoCartoon(5, line_place(cartoon, number))
