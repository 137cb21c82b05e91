"""Kinds and paintings: their rows, and when they may be."""

from kilnloads.bounds import is_within
from kilnloads.programs import Kind, is_kind

MOST_KINDS = 16
MOST_PAINTINGS = 256
MOST_COATS = 4


class Painting:
    """A painting: how many coats it tells, and their kinds; these are fewer where its row ends too early."""

    def __init__(self, how_many, coats):
        self.how_many = how_many
        self.coats = coats


def are_kinds(row):
    if len(row) % 2 != 0 or not is_within(len(row) // 2, 1, MOST_KINDS):
        return False
    for k in range(0, len(row), 2):
        if not is_kind(row[k], row[k + 1]):
            return False
    return True


def kinds_of(row):
    return [Kind(row[k], row[k + 1]) for k in range(0, len(row), 2)]


def paintings_of(row):
    paintings = []
    place = 0
    while place < len(row):
        behind = place + 1 + row[place]
        paintings.append(Painting(row[place], row[place + 1:behind]))
        place = behind
    return paintings


def heats_fall(coats, kinds):
    for k in range(1, len(coats)):
        if kinds[coats[k]].heat >= kinds[coats[k - 1]].heat:
            return False
    return True


def is_painting(painting, kinds):
    if not is_within(painting.how_many, 1, MOST_COATS) or len(painting.coats) < painting.how_many:
        return False
    return max(painting.coats) < len(kinds) and heats_fall(painting.coats, kinds)


def are_paintings(paintings, kinds):
    if len(paintings) > MOST_PAINTINGS:
        return False
    for painting in paintings:
        if not is_painting(painting, kinds):
            return False
    return True
