"""Checking: what is first wrong with a row of loads, of the six things that may be told."""

from kilnloads.programs import HOTTEST


def is_cut_or_empty(row, place):
    """Whether the row ends within the load that begins at the place, or this load has no pane."""
    if place + 1 == len(row):
        return True
    how_many = row[place + 1]
    return how_many == 0 or place + 2 + how_many > len(row)


def wrong_at_head(row, place, kinds, heat_before):
    """The first of 1 to 3 that is wrong with the load that begins at the place; 0 if none is."""
    if is_cut_or_empty(row, place):
        return 1
    if row[place] >= len(kinds):
        return 2
    if kinds[row[place]].heat > heat_before:
        return 3
    return 0


def has_coat(number, kind, pieces):
    return number < len(pieces) and kind in pieces[number].coats


def fire(kind, numbers, pieces, fired):
    """Keeps the panes' coats of the kind as fired, up to the first that may not be; tells how many these are."""
    for k, number in enumerate(numbers):
        if not has_coat(number, kind, pieces) or (kind, number) in fired:
            return k
        fired[(kind, number)] = True
    return len(numbers)


def area_of(numbers, pieces):
    return sum([pieces[number].area for number in numbers])


def all_coats(pieces):
    return sum([len(piece.coats) for piece in pieces])


def first_wrong(row, kinds, pieces, shelf):
    """What is first wrong with the row, 1 to 6, and its place; nothing if the row is loads of the panes."""
    fired = {}
    heat_before = HOTTEST
    place = 0
    while place < len(row):
        wrong = wrong_at_head(row, place, kinds, heat_before)
        if wrong > 0:
            return [wrong, place]
        kind = row[place]
        behind = place + 2 + row[place + 1]
        numbers = row[place + 2:behind]
        right = fire(kind, numbers, pieces, fired)
        if right < len(numbers):
            return [4, place + 2 + right]
        if area_of(numbers, pieces) > shelf:
            return [5, place]
        heat_before = kinds[kind].heat
        place = behind
    # No coat is counted twice and none that there is not, so their number tells whether one is left.
    if len(fired) < all_coats(pieces):
        return [6, len(row)]
    return []
