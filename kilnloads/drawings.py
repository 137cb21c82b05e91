"""A cartoon's drawing: its frame, its lines and the ways along them. The rules 6 to 10."""

from kilnloads.cartoons import HEAD_SIZE, NoCartoon, line_place, point_place
from kilnloads.points import crosses, is_on

NO_POINT = -1


def has_corners(cartoon):
    places = [(point.x, point.y) for point in cartoon.points]
    for x in (0, cartoon.width):
        for y in (0, cartoon.height):
            if (x, y) not in places:
                return False
    return True


def edges_of(cartoon):
    """The numbers of the points on each edge of the frame; in their order they follow one another there."""
    edges = [[], [], [], []]
    for number, point in enumerate(cartoon.points):
        if point.y == 0:
            edges[0].append(number)
        if point.y == cartoon.height:
            edges[1].append(number)
        if point.x == 0:
            edges[2].append(number)
        if point.x == cartoon.width:
            edges[3].append(number)
    return edges


def is_joined(edge, joined):
    for k in range(1, len(edge)):
        if (edge[k - 1], edge[k]) not in joined:
            return False
    return True


def judge_frame(cartoon):
    """Rule 6."""
    if not has_corners(cartoon):
        raise NoCartoon(6, HEAD_SIZE)
    joined = dict([(line, True) for line in cartoon.lines])
    for edge in edges_of(cartoon):
        if not is_joined(edge, joined):
            raise NoCartoon(6, HEAD_SIZE)


def has_point_between(points, line):
    """Whether a point other than its ends is on the line."""
    for number, point in enumerate(points):
        if number not in line and is_on(point, points[line[0]], points[line[1]]):
            return True
    return False


def is_crossed(points, line, others):
    for other in others:
        if crosses(points[line[0]], points[line[1]], points[other[0]], points[other[1]]):
            return True
    return False


def judge_crossings(cartoon):
    """Rule 7. Lines in one row need no look at one another: where they meet one has an end of the other on it."""
    points = cartoon.points
    before = []
    for number, line in enumerate(cartoon.lines):
        if has_point_between(points, line) or is_crossed(points, line, before):
            raise NoCartoon(7, line_place(cartoon, number))
        before.append(line)


def neighbours_of(cartoon):
    """For each point the numbers of those that a line joins with it."""
    neighbours = [[] for point in cartoon.points]
    for first, second in cartoon.lines:
        neighbours[first].append(second)
        neighbours[second].append(first)
    return neighbours


def reached_from(start, neighbours, left_out):
    """For each point whether a way along lines goes there from the start that has not the point left out."""
    reached = [False for point in neighbours]
    reached[start] = True
    waiting = [start]
    while len(waiting) > 0:
        here = waiting.pop()
        for number in neighbours[here]:
            if number != left_out and not reached[number]:
                reached[number] = True
                waiting.append(number)
    return reached


def judge_ends(neighbours):
    """Rule 8."""
    for number, joined in enumerate(neighbours):
        if len(joined) < 2:
            raise NoCartoon(8, point_place(number))


def judge_ways(neighbours):
    """Rule 9."""
    for number, reached in enumerate(reached_from(0, neighbours, NO_POINT)):
        if not reached:
            raise NoCartoon(9, point_place(number))


def judge_joints(neighbours):
    """Rule 10."""
    for number in range(len(neighbours)):
        start = 1 if number == 0 else 0
        if reached_from(start, neighbours, number).count(True) < len(neighbours) - 1:
            raise NoCartoon(10, point_place(number))


def judge_drawing(cartoon):
    """The rules 6 to 10, in their order."""
    judge_frame(cartoon)
    judge_crossings(cartoon)
    neighbours = neighbours_of(cartoon)
    judge_ends(neighbours)
    judge_ways(neighbours)
    judge_joints(neighbours)
