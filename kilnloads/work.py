"""What is to be fired, as the calls about loads are handed it."""

from kilnloads.cartoons import NoCartoon
from kilnloads.coats import are_kinds, are_paintings, kinds_of, paintings_of
from kilnloads.loading import NO_PANE, first_without_painting, pieces_of
from kilnloads.panes import panes_of


class Work:
    """The kinds, and the panes as they are fired; or a refusal's numbers, which are none if nothing is refused."""

    def __init__(self, kinds, pieces, refusal):
        self.kinds = kinds
        self.pieces = pieces
        self.refusal = refusal


def refused(numbers):
    return Work([], [], numbers)


def work_of(cartoon, kinds, paintings):
    if not are_kinds(kinds):
        return refused([-1])
    known_kinds = kinds_of(kinds)
    known_paintings = paintings_of(paintings)
    if not are_paintings(known_paintings, known_kinds):
        return refused([-1])
    try:
        panes = panes_of(cartoon)
    except NoCartoon as broken:
        return refused([-5, broken.rule, broken.place])
    unknown = first_without_painting(panes, known_paintings)
    if unknown != NO_PANE:
        return refused([-3, unknown])
    return Work(known_kinds, pieces_of(panes, known_paintings), [])
