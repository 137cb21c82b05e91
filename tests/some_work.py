"""Kinds, paintings, and rows of loads drawn by chance from a fixed seed."""

from tests.rows import loads_in, row_from


def some_heats(draw):
    return [draw.choice([600, 620, 640, draw.randint(1, 1400)]) for _ in range(draw.randint(1, 6))]


def some_paintings(draw, heats):
    """Paintings that may be: kinds with heats that fall."""
    paintings = []
    for _ in range(draw.randint(0, 6)):
        coats = []
        for kind in sorted(range(len(heats)), key=lambda kind: -heats[kind]):
            if len(coats) < 4 and draw.random() < 0.6 and (not coats or heats[kind] < heats[coats[-1]]):
                coats.append(kind)
        paintings.append(coats or [draw.randrange(len(heats))])
    return paintings


def with_other_loads(draw, row):
    """The row with its loads changed, so that it still ends with a load."""
    found = [(kind, list(panes)) for kind, panes in loads_in(row)]
    kind, panes = found.pop(draw.randrange(len(found)))
    way = draw.choice(["left out", "twice", "elsewhere", "parted", "put together", "turned", "moved"])
    if way == "twice":
        found += [(kind, panes), (kind, panes)]
    elif way == "elsewhere":
        found.insert(draw.randint(0, len(found)), (kind, panes))
    elif way == "parted":
        cut = draw.randint(0, len(panes))
        found += [(kind, panes[:cut]), (kind, panes[cut:])]
    elif way == "put together" and found:
        found[-1] = (found[-1][0], found[-1][1] + panes)
    elif way == "turned":
        found.append((kind, panes[::-1]))
    elif way == "moved" and found and panes:
        other = draw.choice(found)
        other[1].insert(draw.randint(0, len(other[1])), panes.pop())
        found.append((kind, panes))
    if draw.random() < 0.7:
        order = [kind for kind, panes in loads_in(row)]
        found.sort(key=lambda load: order.index(load[0]))
    return row_from(load for load in found if load[1] or draw.random() < 0.2)


def with_other_numbers(draw, row, most):
    """The row with one number changed, left out or put in, or cut off; or with more behind it."""
    place = draw.randrange(len(row))
    number = draw.choice([draw.randint(0, most), draw.randint(0, most), most + 1, 2 ** 32 - 1])
    return draw.choice([row[:place] + [number] + row[place + 1:], row[:place] + row[place + 1:],
                        row[:place] + [number] + row[place:], row[:place], row + [number], row + [number, 1, place]])


def spoiled_row(draw, row, most):
    """The row with some of its parts changed; most is about the greatest number of a pane."""
    for _ in range(draw.choice([0, 1, 1, 2])):
        row = with_other_loads(draw, row) if row else [draw.randint(0, 2), 1, draw.randint(0, most)]
    if row and draw.random() < 0.4:
        return with_other_numbers(draw, row, most)
    return row
