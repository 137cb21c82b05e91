"""The calls. Each answers one list: 0 and what is told, or a refusal's numbers alone."""

from kilnloads.cartoons import NoCartoon
from kilnloads.coats import are_kinds, are_paintings, kinds_of, paintings_of
from kilnloads.loading import NO_PANE, first_too_large, first_without_painting, pieces_of, row_of_loads
from kilnloads.panes import panes_of
from kilnloads.programs import Glass, Kind, Shop
from kilnloads.programs import first_broken, is_glass, is_kind, is_program, is_shop, program_time, segments_of
from kilnloads.programs import temperature_at


def judge(s, a, f, t, up, down, cool, rest, kind_heat, hold, program):
    """[0] if the program is right for the glass, the shop and the kind; else [0, rule, segment's number]."""
    if not is_glass(s, a, f, t) or not is_shop(up, down, cool, rest):
        return [-1]
    if not is_kind(kind_heat, hold) or not is_program(program):
        return [-1]
    told = first_broken(segments_of(program), Glass(s, a, f, t), Shop(up, down, cool, rest), Kind(kind_heat, hold))
    return [0] + told


def time(program):
    """[0, minutes]: how long the program takes."""
    if not is_program(program):
        return [-1]
    return [0, program_time(segments_of(program))]


def at(minute, program):
    """[0, temperature at the minute, in sixtieths of a degree]; behind the program's time its last target."""
    if not is_program(program):
        return [-1]
    return [0, temperature_at(segments_of(program), minute)]


def loads(shelf, cartoon, kinds, paintings):
    """[0, how many numbers the row has, ...]: load by load its kind, how many panes, their numbers."""
    if not are_kinds(kinds):
        return [-1]
    known_kinds = kinds_of(kinds)
    known_paintings = paintings_of(paintings)
    if not are_paintings(known_paintings, known_kinds):
        return [-1]
    try:
        panes = panes_of(cartoon)
    except NoCartoon as broken:
        return [-5, broken.rule, broken.place]
    unknown = first_without_painting(panes, known_paintings)
    if unknown != NO_PANE:
        return [-3, unknown]
    pieces = pieces_of(panes, known_paintings)
    too_large = first_too_large(pieces, shelf)
    if too_large != NO_PANE:
        return [-3, too_large]
    row = row_of_loads(known_kinds, pieces, shelf)
    return [0, len(row)] + row
