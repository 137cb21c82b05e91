"""Glasses, shops, kinds and programs drawn by chance from a fixed seed, as judge's arguments by their names."""

import random

from kilnloads.firing import judge


def told_of(case):
    return judge(**{**case, "program": list(case["program"])})


def is_right(case):
    return told_of(case) == [0]


def some_firings(count):
    """Drawn so that every rule is met and many programs are right."""
    draw = random.Random(40)
    cases = []
    for _ in range(count):
        case = {"s": draw.randint(30, 60), "t": draw.randint(1, 6), "up": draw.randint(20, 1500),
                "down": draw.randint(20, 1500), "cool": draw.randint(20, 1500), "rest": draw.randint(0, 2),
                "kind_heat": draw.randint(1, 60), "hold": draw.randint(0, 4)}
        case["a"] = case["s"] + draw.randint(1, 10)
        case["f"] = case["a"] + draw.randint(5, 40)
        program = []
        for _ in range(draw.randint(1, 5)):
            program += [draw.randint(0, 90), draw.randint(1, 200), draw.randint(0, 12)]
        program += [draw.randint(20, 41), draw.randint(1, 200), 0]
        case["program"] = program
        cases.append(case)
    return cases


def with_least(case, name):
    """The right case with the least up, down or cool with which it stays right."""
    fastest = sorted({rate * case["t"] for rate in case["program"][1::3]} | {1})
    for number in fastest:
        if is_right({**case, name: number}):
            return {**case, name: number}
    raise AssertionError((case, name))


def moved(case, name, step):
    """The right case with one number moved step by step, up to the last with which it stays right."""
    other = {**case, name: case[name] + step}
    while is_right(other):
        case = other
        other = {**case, name: case[name] + step}
    return case


def at_edges(case):
    """Right cases in which one number is at the edge of what is right, or all of the shop's are."""
    cases = [with_least(case, "up"), with_least(case, "down"), with_least(case, "cool")]
    shop = with_least(with_least(with_least(case, "up"), "down"), "cool")
    cases.append(moved(shop, "rest", 1))
    for name, step in (("t", 1), ("a", 1), ("a", -1), ("s", 1), ("s", -1), ("f", -1)):
        cases.append(moved(case, name, step))
    return cases
