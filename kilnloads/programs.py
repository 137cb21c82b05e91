"""Programs, glasses, shops and kinds: their bounds, a program's time and temperatures,
and the rules by which it is right."""

from kilnloads.bounds import is_within

KILN_STANDS_AT = 20
COLD_ENOUGH = 40
HOTTEST = 1400
FASTEST = 9999
LONGEST_HOLD = 9999
MOST_SEGMENTS = 32
THICKEST = 500
MOST_SPEED = 1000000
MOST_REST = 1000


class Segment:
    """A segment of a program, with the temperature from which it goes."""

    def __init__(self, first, target, rate, hold):
        self.first = first
        self.target = target
        self.rate = rate
        self.hold = hold


class Glass:
    """A glass for firing: its strain, annealing and softening points, its thickness."""

    def __init__(self, strain, annealing, softening, thickness):
        self.strain = strain
        self.annealing = annealing
        self.softening = softening
        self.thickness = thickness


class Shop:
    """A shop: what rate times thickness may be, and how long a glass rests for its thickness."""

    def __init__(self, up, down, cool, rest):
        self.up = up
        self.down = down
        self.cool = cool
        self.rest = rest


class Kind:
    """A coat's kind: the heat that it asks for, and how long."""

    def __init__(self, heat, hold):
        self.heat = heat
        self.hold = hold


def is_segment(target, rate, hold):
    return is_within(target, 0, HOTTEST) and is_within(rate, 1, FASTEST) and is_within(hold, 0, LONGEST_HOLD)


def is_program(program):
    if len(program) % 3 != 0 or not is_within(len(program) // 3, 1, MOST_SEGMENTS):
        return False
    for k in range(0, len(program), 3):
        if not is_segment(program[k], program[k + 1], program[k + 2]):
            return False
    return True


def is_glass(s, a, f, t):
    return 1 <= s and s < a and a < f and f <= HOTTEST and is_within(t, 1, THICKEST)


def is_shop(up, down, cool, rest):
    speeds_fit = is_within(up, 1, MOST_SPEED) and is_within(down, 1, MOST_SPEED) and is_within(cool, 1, MOST_SPEED)
    return speeds_fit and is_within(rest, 0, MOST_REST)


def is_kind(heat, hold):
    return is_within(heat, 1, HOTTEST) and is_within(hold, 0, LONGEST_HOLD)


def segments_of(program):
    segments = []
    first = KILN_STANDS_AT
    for k in range(0, len(program), 3):
        segments.append(Segment(first, program[k], program[k + 1], program[k + 2]))
        first = program[k]
    return segments


def segment_time(segment):
    way = abs(segment.target - segment.first) * 60
    return (way + segment.rate - 1) // segment.rate + segment.hold


def program_time(segments):
    return sum([segment_time(segment) for segment in segments])


def going_at(start, target, rate, minute):
    """The temperature, in sixtieths of a degree, after so many minutes of going from start to target."""
    if target < start:
        return max(60 * target, 60 * start - minute * rate)
    return min(60 * target, 60 * start + minute * rate)


def temperature_at(segments, minute):
    left = minute
    for segment in segments:
        lasts = segment_time(segment)
        if left < lasts:
            return going_at(segment.first, segment.target, segment.rate, left)
        left = left - lasts
    return 60 * segments[-1].target


def rule_at_segment(segment, glass, shop):
    """The first of the rules 1 to 4 that holds at the segment; 0 if none does."""
    rises = segment.target > segment.first
    falls = segment.target < segment.first
    speed = segment.rate * glass.thickness
    if segment.target > glass.softening:
        return 1
    if rises and segment.first < glass.annealing and speed > shop.up:
        return 2
    if falls and segment.target < glass.annealing and segment.first > glass.strain and speed > shop.down:
        return 3
    if falls and segment.target < glass.strain and speed > shop.cool:
        return 4
    return 0


def reaches_heat(segments, kind):
    for segment in segments:
        if segment.target >= kind.heat and segment.hold >= kind.hold:
            return True
    return False


def is_rested(segments, glass, minutes):
    rested = True
    for segment in segments:
        if segment.target > glass.annealing:
            # Heat above the annealing point undoes every rest before it.
            rested = False
        elif segment.target >= glass.strain and segment.hold >= minutes:
            rested = True
    return rested


def rule_behind_segments(segments, glass, shop, kind):
    """The first of the rules 5 to 7 that holds behind all segments; 0 if none does."""
    if not reaches_heat(segments, kind):
        return 5
    if not is_rested(segments, glass, shop.rest * glass.thickness):
        return 6
    if segments[-1].target > COLD_ENOUGH:
        return 7
    return 0


def first_broken(segments, glass, shop, kind):
    """The rule and the segment's number that are told of a program; nothing if it is right."""
    for number, segment in enumerate(segments):
        rule = rule_at_segment(segment, glass, shop)
        if rule > 0:
            return [rule, number]
    rule = rule_behind_segments(segments, glass, shop, kind)
    if rule > 0:
        return [rule, len(segments)]
    return []
