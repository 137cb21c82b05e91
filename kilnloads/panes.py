"""A cartoon's panes: their outlines, the marks in them, the rules 11 to 13."""

from kilnloads.cartoons import NoCartoon, judge_head, judge_lines, judge_points, mark_place, told_by
from kilnloads.drawings import NO_POINT, judge_drawing, neighbours_of
from kilnloads.points import is_behind, is_on, turn


class Pane:
    """A pane: its corners, with the pane to the left all the way round, and the number of its painting."""

    def __init__(self, corners, painting):
        self.corners = corners
        self.painting = painting


def is_more_left(before, here, point, other):
    """Whether the way before, here, point turns more to the left than the way before, here, other."""
    goes_left = turn(before, here, point) > 0
    other_goes_left = turn(before, here, other) > 0
    if goes_left != other_goes_left:
        return goes_left
    return turn(here, point, other) < 0


def leftmost(points, joined, before, here):
    """The point, of those joined with here, to which the way from before turns most to the left."""
    found = NO_POINT
    for number in joined:
        if number == before:
            continue
        if found == NO_POINT or is_more_left(points[before], points[here], points[number], points[found]):
            found = number
    return found


def outline_from(first, second, points, neighbours):
    """The numbers of the points round what lies to the left of the way from first to second."""
    outline = [first]
    before = first
    here = second
    while here != first:
        outline.append(here)
        following = leftmost(points, neighbours[here], before, here)
        before = here
        here = following
    return outline


def goes_round_left(corners):
    """Whether what lies to the left of the outline is within it: not so of the outside of the frame."""
    doubled_area = 0
    for k in range(len(corners)):
        doubled_area = doubled_area + corners[k - 1].x * corners[k].y - corners[k].x * corners[k - 1].y
    return doubled_area > 0


def outlines_of(cartoon):
    """The corners of each pane, from the least number on."""
    points = cartoon.points
    neighbours = neighbours_of(cartoon)
    walked = {}
    outlines = []
    for first in range(len(points)):
        for second in neighbours[first]:
            if (first, second) in walked:
                continue
            outline = outline_from(first, second, points, neighbours)
            for k in range(len(outline)):
                walked[(outline[k - 1], outline[k])] = True
            corners = [points[number] for number in outline]
            if goes_round_left(corners):
                outlines.append(corners)
    return outlines


def is_round(corners, mark):
    """Whether the outline goes round the mark: if the way from it to the right meets it an odd number of times."""
    within = False
    for k in range(len(corners)):
        before = corners[k - 1]
        corner = corners[k]
        # A line counts with its lower end and without its upper: so a corner on the way is met once where the outline
        # goes on through the way, and twice or never where it turns back.
        rises = before.y <= mark.y and mark.y < corner.y
        falls = corner.y <= mark.y and mark.y < before.y
        if (rises and turn(before, corner, mark) > 0) or (falls and turn(before, corner, mark) < 0):
            within = not within
    return within


def outline_round(outlines, mark):
    """The number of the outline within which the mark is: one within the frame that is on no line has just one."""
    number = 0
    while not is_round(outlines[number], mark):
        number = number + 1
    return number


def is_on_a_line(cartoon, mark):
    points = cartoon.points
    for first, second in cartoon.lines:
        if is_on(mark, points[first], points[second]):
            return True
    return False


def is_within_frame(cartoon, mark):
    return 0 < mark.x and mark.x < cartoon.width and 0 < mark.y and mark.y < cartoon.height


def judge_marks(cartoon):
    """Rule 11."""
    marks = cartoon.marks
    for number, mark in enumerate(marks):
        if not is_within_frame(cartoon, mark) or is_on_a_line(cartoon, mark):
            raise NoCartoon(11, mark_place(cartoon, number))
        if number > 0 and not is_behind(mark, marks[number - 1]):
            raise NoCartoon(11, mark_place(cartoon, number))


def marked_panes(cartoon):
    """The panes in the order of their marks, and the rules 12 and 13."""
    outlines = outlines_of(cartoon)
    marked = {}
    panes = []
    for number, mark in enumerate(cartoon.marks):
        outline = outline_round(outlines, mark)
        if outline in marked:
            raise NoCartoon(12, mark_place(cartoon, number))
        marked[outline] = True
        panes.append(Pane(outlines[outline], mark.painting))
    if len(panes) < len(outlines):
        raise NoCartoon(13, mark_place(cartoon, len(cartoon.marks)))
    return panes


def panes_of(data):
    """The panes of the cartoon that the bytes are; NoCartoon if they are none."""
    judge_head(data)
    cartoon = told_by(data)
    judge_points(cartoon)
    judge_lines(cartoon)
    judge_drawing(cartoon)
    judge_marks(cartoon)
    return marked_panes(cartoon)
