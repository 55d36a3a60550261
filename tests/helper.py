"""Writes calls by name, draws lists of them, and splits what is answered call by call."""

import random

from agegrades.people import answers

BIG = 4294967295


def start(t=5, g=4, n=3, l=10, h=20):
    return [0, t, g, n, l, h]


def born(father=None):
    return [1, 0 if father is None else father + 1]


def dies(i):
    return [2, i]


def join(i):
    return [3, i]


def join_all():
    return [4]


def pass_years(n):
    return [5, n]


def behind(k):
    return [6, k]


def office(g):
    return [7, g]


def grade(i):
    return [8, i]


def set_in(g):
    return [9, g]


def strength(g):
    return [10, g]


def ruler():
    return [11]


def speaker():
    return [12]


def may():
    return [13]


def missed():
    return [14]


def when(i):
    return [15, i]


def age(i):
    return [16, i]


def senior(i, j):
    return [17, i, j]


def turned():
    return [18]


def sons(i):
    return [19, i]


def line(i):
    return [20, i]


def retired():
    return [21]


def next_set():
    return [22]


def named(k):
    return [23, k]


def told_of(i):
    return [24, i]


def back():
    return [25]


def again():
    return [26]


def state():
    return [27]


def wait(calls, years):
    """The calls, and so many years behind them; 0 years would be refused."""
    return calls + [pass_years(years)] if years > 0 else calls


def flat(calls):
    return [number for call in calls for number in call]


def split(told, how_many):
    """The answers one by one; every number must belong to one of them."""
    pieces = []
    at = 0
    while at < len(told):
        size = told[at]
        piece = told[at + 1:at + 1 + size]
        if size < 1 or len(piece) != size:
            raise AssertionError(f"answer cut short at {at} in {told}")
        pieces.append(piece)
        at += 1 + size
    if len(pieces) != how_many:
        raise AssertionError(f"{how_many} calls, {len(pieces)} answers")
    return pieces


def all_told(*calls):
    return split(answers(flat(calls)), len(calls))


def last(*calls):
    return all_told(*calls)[-1]


def told_behind(calls, *more):
    """What the further calls answer behind these."""
    return all_told(*calls, *more)[len(calls):]


def members(told):
    """The numbers that are told as a set of men (or of grades)."""
    found = [i for i in range(32) if told[1] >> i & 1]
    if told != [len(found), sum(2 ** i for i in found)]:
        raise AssertionError(f"not as a set of men: {told}")
    return found


def tell_all(men, grades, names):
    """Every question but pp_state, each with every number that it takes and one beyond."""
    calls = [may(), missed(), turned(), retired(), next_set(), ruler(), speaker()]
    for i in range(men + 1):
        calls += [grade(i), when(i), age(i), sons(i), line(i), told_of(i), senior(i, (i + 1) % (men + 1))]
    for g in range(grades + 1):
        calls += [set_in(g), strength(g)]
    return calls + [named(k) for k in range(names + 1)]


def probe(men, grades, names=16):
    """Calls that bring to light all there is, but for what was before.

    The questions come first; behind them changes, whose answers tell of it too.
    """
    calls = tell_all(men, grades, names) + [join_all(), join_all()]
    calls += [grade(i) for i in range(men + 1)]
    for g in range(grades):
        calls += [office(g), ruler(), speaker()]
    calls += [behind(12), behind(11)]
    calls += [born(i) for i in range(men)]
    calls += [born(), pass_years(1)]
    calls += [dies(i) for i in range(men + 2)]
    return calls


CHANGES = [1, 1, 2, 3, 3, 3, 4, 5, 5, 6, 7]
FIRST_HALF = CHANGES + [8, 9, 10, 11, 12, 13]
EVERY_CALL_BUT_START = CHANGES * 4 + [25, 25, 26, 26, 27, 27] + list(range(8, 25))


def drawn_start(draw):
    l = draw.randint(0, draw.choice([1, 8, 25]))
    return [0, draw.randint(1, 20), draw.randint(2, 8), draw.randint(2, 16), l, draw.randint(l, 60)]


def drawn_calls(seed, numbers=FIRST_HALF, turns=300):
    """A list drawn from a fixed seed: a start, and so many turns of the calls with these numbers."""
    draw = random.Random(seed)
    calls = [drawn_start(draw)]
    longest = draw.choice([2, 6, 20])
    steps = draw.choice([[1], [1, 1, 2, 6], [1, 1, 5, 22]])
    for turn in range(turns):
        number = draw.choice(numbers)
        if number in (25, 26):
            calls += [[number]] * draw.choice(steps)
        elif number in (4, 11, 12, 13, 14, 18, 21, 22, 27):
            calls.append([number])
        elif number == 0:
            calls.append(drawn_start(draw) if draw.random() < 0.4 else start(t=draw.choice([0, 21, BIG])))
        elif number == 5:
            calls.append([5, draw.randint(0, longest)])
        elif number in (6, 7, 9, 10):
            calls.append([number, draw.randint(0, 8)])
        elif number == 23:
            calls.append([number, draw.randint(0, 16)])
        elif number != 2 or draw.random() < 0.3:
            most = min(24, 2 + turn // 8)
            calls.append([number] + [draw.randint(0, most) for given in range(2 if number == 17 else 1)])
    return calls
