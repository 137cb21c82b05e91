"""Points, turns, and how points and lines lie to one another."""

from kilnloads.bounds import is_within


class Point:
    """A point: x to the right, y up."""

    def __init__(self, x, y):
        self.x = x
        self.y = y


def turn(p, q, r):
    """Above 0 if the way p q r turns to the left, below 0 to the right, 0 if the three are in a row."""
    return (q.x - p.x) * (r.y - q.y) - (q.y - p.y) * (r.x - q.x)


def is_on(r, p, q):
    """Whether the point r is on the line p q; the ends are on it."""
    if not is_within(r.y, min(p.y, q.y), max(p.y, q.y)):
        return False
    return is_within(r.x, min(p.x, q.x), max(p.x, q.x)) and turn(p, q, r) == 0


def crosses(p, q, r, s):
    """Whether the lines p q and r s have a point in common, not being in one row, that is an end of neither."""
    return turn(p, q, r) * turn(p, q, s) < 0 and turn(r, s, p) * turn(r, s, q) < 0


def is_behind(point, other):
    """Whether the point comes behind the other: by y, of one y by x."""
    return point.y > other.y or (point.y == other.y and point.x > other.x)
