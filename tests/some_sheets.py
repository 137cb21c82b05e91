"""Sheets drawn by chance from a fixed seed, some of them broken."""

from tests import oracle
from tests.drawn import by_y, drawn, frame_ways


def some_places(draw, width, height):
    """Places within the frame and on its edges; few different x and y, so that many lie in one row."""
    xs = draw.sample(range(width + 1), 5) + [0, width]
    ys = draw.sample(range(height + 1), 5) + [0, height]
    places = {(draw.choice(xs), draw.choice(ys)) for _ in range(draw.randint(0, 14))}
    return sorted(places | {(0, 0), (width, 0), (0, height), (width, height)}, key=by_y)


def lines_without_crossing(draw, places, kept):
    """As many lines between the places as come without crossing, beginning with those that are kept."""
    lines = list(kept)
    pairs = [(p, q) for k, p in enumerate(places) for q in places[:k]]
    draw.shuffle(pairs)
    for p, q in pairs:
        if any(oracle.lies_on(r, p, q) for r in places if r not in (p, q)):
            continue
        if (q, p) in lines or (p, q) in lines or any(oracle.meet(p, q, r, s) for r, s in lines):
            continue
        lines.append((p, q))
    return lines


def is_right(sheet):
    return not oracle.broken_drawing(sheet.width, sheet.height, sheet.points, sheet.lines)


def has_two_ends(sheet):
    """No point is the end of fewer than two lines, so what is broken is rule 9 or 10."""
    return all(sum(k in line for line in sheet.lines) >= 2 for k in range(len(sheet.points)))


def is_anything(sheet):
    return True


def thinned(draw, width, height, places, lines, frame, stays):
    """Fewer lines, so that what is asked of the sheet stays so."""
    spared = draw.choice([0, 0, 0.2, 0.5])
    for line in draw.sample(lines, len(lines)):
        if line in frame or draw.random() < spared:
            continue
        left = [other for other in lines if other != line]
        if stays(drawn(width, height, left, [], places)):
            lines = left
    return lines


def marks_for(draw, sheet, most_painting):
    """One mark in each pane where a few tries find a place."""
    slabs = oracle.Slabs(sheet.points, sheet.lines)
    marks = {}
    for _ in range(30 * len(slabs.panes())):
        place = (draw.randint(1, sheet.width - 1), draw.randint(1, sheet.height - 1))
        if any(oracle.lies_on(place, sheet.points[i], sheet.points[j]) for i, j in sheet.lines):
            continue
        marks.setdefault(slabs.pane_at(*place), place + (draw.randint(0, most_painting),))
        if len(marks) == len(slabs.panes()):
            break
    return sorted(marks.values(), key=by_y)


def some_sheet(draw, most_painting):
    width, height = draw.choice([(16, 16), (16, 20), (24, 17), (90, 60), (1000, 400)])
    places = some_places(draw, width, height)
    frame = [line for way in frame_ways(width, height, places) for line in zip(way, way[1:])]
    lines = lines_without_crossing(draw, places, frame)
    if draw.random() < 0.8:
        stays = draw.choice([is_right, is_right, has_two_ends, is_anything])
        lines = thinned(draw, width, height, places, lines, frame, stays)
    sheet = drawn(width, height, lines, [], places)
    if not is_right(sheet):
        return sheet.but(marks=[(1, 1, 0)])
    return sheet.but(marks=marks_for(draw, sheet, most_painting))


def spoiled(draw, sheet):
    """The sheet with one of its parts changed by a little."""
    parts = ["points", "lines", "more lines", "fewer lines", "more marks"]
    part = draw.choice(parts + ["marks", "fewer marks"] if sheet.marks else parts)
    points, lines, marks = list(sheet.points), list(sheet.lines), list(sheet.marks)
    step = draw.choice([-2, -1, 0, 1, 2])
    if part == "points":
        k = draw.randrange(len(points))
        points[k] = (max(0, points[k][0] + step), max(0, points[k][1] + draw.choice([-1, 0, 1])))
    elif part == "lines":
        k = draw.randrange(len(lines))
        lines[k] = (lines[k][0], max(0, lines[k][1] + step))
    elif part == "marks":
        k = draw.randrange(len(marks))
        marks[k] = (max(0, marks[k][0] + 3 * step), max(0, marks[k][1] + draw.choice([-1, 0, 1])), marks[k][2])
    elif part == "more lines":
        first, second = sorted(draw.sample(range(len(points)), 2))
        lines = sorted(set(lines + [(first, second)]))
    elif part == "fewer lines":
        lines.pop(draw.randrange(len(lines)))
    elif part == "more marks":
        marks.append((draw.randint(0, sheet.width), draw.randint(0, sheet.height), 0))
        marks = sorted(marks, key=by_y)
    else:
        marks.pop(draw.randrange(len(marks)))
    return sheet.but(points=points, lines=lines, marks=marks)
