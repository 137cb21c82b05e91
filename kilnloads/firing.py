"""The calls. Each answers one list: 0 and what is told, or a refusal's numbers alone."""

from kilnloads.checking import first_wrong
from kilnloads.loading import NO_PANE, first_too_large, row_of_loads
from kilnloads.programs import Glass, Kind, Shop
from kilnloads.programs import first_broken, going_at, is_glass, is_kind, is_program, is_shop, program_time
from kilnloads.programs import segments_of, temperature_at
from kilnloads.work import work_of


def judge(s, a, f, t, up, down, cool, rest, kind_heat, hold, program):
    """[0] if the program is right for the glass, the shop and the kind; else [0, rule, segment's number]."""
    if not is_glass(s, a, f, t) or not is_shop(up, down, cool, rest):
        return [-1]
    if not is_kind(kind_heat, hold) or not is_program(program):
        return [-1]
    told = first_broken(segments_of(program), Glass(s, a, f, t), Shop(up, down, cool, rest), Kind(kind_heat, hold))
    return [0] + told


def time(program):
    """[0, minutes]: how long the program takes."""
    if not is_program(program):
        return [-1]
    return [0, program_time(segments_of(program))]


def at(minute, program):
    """[0, temperature at the minute, in sixtieths of a degree]; behind the program's time its last target."""
    if not is_program(program):
        return [-1]
    return [0, temperature_at(segments_of(program), minute)]


def loads(shelf, cartoon, kinds, paintings):
    """[0, how many numbers the row has, ...]: load by load its kind, how many panes, their numbers."""
    work = work_of(cartoon, kinds, paintings)
    if len(work.refusal) > 0:
        return work.refusal
    too_large = first_too_large(work.pieces, shelf)
    if too_large != NO_PANE:
        return [-3, too_large]
    row = row_of_loads(work.kinds, work.pieces, shelf)
    return [0, len(row)] + row


def check(shelf, cartoon, kinds, paintings, row):
    """[0] if the row is loads of the cartoon's panes; else [0, what is first wrong, its place in the row]."""
    work = work_of(cartoon, kinds, paintings)
    if len(work.refusal) > 0:
        return work.refusal
    return [0] + first_wrong(row, work.kinds, work.pieces, shelf)


def heat(start, target, rate, minute):
    """[0, temperature]: in sixtieths of a degree, after so many minutes of going from start to target by rate."""
    return [0, going_at(start, target, rate, minute)]
