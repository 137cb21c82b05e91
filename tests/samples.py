"""Programs and numbers that several tests hand in."""

GREATEST = 2 ** 64 - 1

# The document's run.
RUN = [540, 300, 0, 650, 400, 10, 510, 9999, 30, 40, 120, 0]

# The bounds of a segment's three numbers.
SEGMENT_BOUNDS = [(0, 1400), (1, 9999), (0, 9999)]


def beyond(bounds):
    """The numbers just outside the bounds, as far as they may be handed in, and the greatest of all."""
    least, greatest = bounds
    below = [least - 1] if least > 0 else []
    return below + [greatest + 1, GREATEST]


def changed(numbers, place, number):
    return numbers[:place] + [number] + numbers[place + 1:]


def wrong_programs():
    """Programs that may not be, made of the right one of the run."""
    wrong = [[], RUN * 8 + RUN[:3], RUN * 10, RUN[:1], RUN[:2], RUN[:10], RUN[:11], RUN + [20]]
    wrong.append([20, 60, 0] * 33)
    wrong.append([20, 60, 0] * 32 + [20])
    wrong.append([20, 60, 0] * 32 + [20, 60])
    for place in range(len(RUN)):
        for number in beyond(SEGMENT_BOUNDS[place % 3]):
            wrong.append(changed(RUN, place, number))
    last_wrong = [20, 60, 0] * 31
    for place in range(3):
        for number in beyond(SEGMENT_BOUNDS[place]):
            wrong.append(last_wrong + changed([20, 60, 0], place, number))
    return wrong


def programs_at_bounds():
    """Programs in which some number is just at its bound, so they may be."""
    taken = [[20, 60, 0], [20, 60, 0] * 32]
    for place in range(len(RUN)):
        for number in SEGMENT_BOUNDS[place % 3]:
            taken.append(changed(RUN, place, number))
    return taken


def minutes_of(program):
    """The temperature at each minute, in sixtieths of a degree, gone through minute by minute."""
    now = 20 * 60
    minutes = [now]
    for k in range(0, len(program), 3):
        goal = program[k] * 60
        while now != goal:
            now = min(now + program[k + 1], goal) if now < goal else max(now - program[k + 1], goal)
            minutes.append(now)
        minutes += [now] * program[k + 2]
    return minutes
