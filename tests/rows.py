"""Rows of loads, kinds and paintings, and their parts."""


def row_of(answer):
    """The row of an answer of loads that is no refusal."""
    if answer[0] != 0 or answer[1] != len(answer) - 2:
        raise AssertionError(answer)
    return answer[2:]


def loads_in(row):
    """The loads of a row: (kind, [panes])."""
    found = []
    while row:
        found.append((row[0], row[2:2 + row[1]]))
        row = row[2 + row[1]:]
    return found


def row_from(loads):
    return [number for kind, panes in loads for number in [kind, len(panes)] + list(panes)]


def kinds_row(heats):
    return [number for heat in heats for number in (heat, 5)]


def paintings_row(paintings):
    return [number for coats in paintings for number in [len(coats)] + list(coats)]
