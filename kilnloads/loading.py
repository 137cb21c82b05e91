"""Loads: the panes' blanks and coats, and how the panes are put on."""

NO_PANE = -1


class Piece:
    """A pane as it is fired: its blank's area, and the kinds of its coats."""

    def __init__(self, area, coats):
        self.area = area
        self.coats = coats


class Load:
    """A load of one kind: its panes' numbers in the order they were put on, and their areas together."""

    def __init__(self):
        self.panes = []
        self.area = 0


def first_without_painting(panes, paintings):
    """The first pane's number whose mark tells a painting that there is not; NO_PANE if none does."""
    for number, pane in enumerate(panes):
        if pane.painting > len(paintings):
            return number
    return NO_PANE


def blank_area(corners):
    across = [corner.x for corner in corners]
    upward = [corner.y for corner in corners]
    return (max(across) - min(across)) * (max(upward) - min(upward))


def coats_of(pane, paintings):
    if pane.painting == 0:
        return []
    return paintings[pane.painting - 1].coats


def pieces_of(panes, paintings):
    return [Piece(blank_area(pane.corners), coats_of(pane, paintings)) for pane in panes]


def first_too_large(pieces, shelf):
    """The first pane's number that has a coat and is too large; NO_PANE if none is."""
    for number, piece in enumerate(pieces):
        if len(piece.coats) > 0 and piece.area > shelf:
            return number
    return NO_PANE


def hottest_first(kinds):
    """The kinds' numbers in order of their heats, of one heat by number."""
    return sorted(range(len(kinds)), key=lambda number: (-kinds[number].heat, number))


def largest_first(kind, pieces):
    """The numbers of the panes with a coat of the kind in order of their areas, of one area by number."""
    numbers = [number for number, piece in enumerate(pieces) if kind in piece.coats]
    return sorted(numbers, key=lambda number: (-pieces[number].area, number))


def load_for(area, loads, shelf):
    """The first of the loads that takes so much more; a new one behind them if none does."""
    for load in loads:
        if load.area + area <= shelf:
            return load
    begun = Load()
    loads.append(begun)
    return begun


def loads_of(kind, pieces, shelf):
    loads = []
    for number in largest_first(kind, pieces):
        area = pieces[number].area
        load = load_for(area, loads, shelf)
        load.panes.append(number)
        load.area = load.area + area
    return loads


def row_of_loads(kinds, pieces, shelf):
    """Load by load its kind, how many panes, their numbers."""
    row = []
    for kind in hottest_first(kinds):
        for load in loads_of(kind, pieces, shelf):
            row.extend([kind, len(load.panes)])
            row.extend(load.panes)
    return row
