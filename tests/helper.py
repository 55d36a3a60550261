"""Writes calls by name, and splits what is answered call by call."""

from agegrades.people import answers

BIG = 4294967295


def start(t=5, g=4, n=3, l=10, h=20):
    return [0, t, g, n, l, h]


def born(father=None):
    return [1, 0 if father is None else father + 1]


def dies(i):
    return [2, i]


def join(i):
    return [3, i]


def join_all():
    return [4]


def pass_years(n):
    return [5, n]


def behind(k):
    return [6, k]


def office(g):
    return [7, g]


def grade(i):
    return [8, i]


def set_in(g):
    return [9, g]


def strength(g):
    return [10, g]


def ruler():
    return [11]


def speaker():
    return [12]


def may():
    return [13]


def wait(calls, years):
    """The calls, and so many years behind them; 0 years would be refused."""
    return calls + [pass_years(years)] if years > 0 else calls


def flat(calls):
    return [number for call in calls for number in call]


def split(told, how_many):
    """The answers one by one; every number must belong to one of them."""
    pieces = []
    at = 0
    while at < len(told):
        size = told[at]
        piece = told[at + 1:at + 1 + size]
        if size < 1 or len(piece) != size:
            raise AssertionError(f"answer cut short at {at} in {told}")
        pieces.append(piece)
        at += 1 + size
    if len(pieces) != how_many:
        raise AssertionError(f"{how_many} calls, {len(pieces)} answers")
    return pieces


def all_told(*calls):
    return split(answers(flat(calls)), len(calls))


def last(*calls):
    return all_told(*calls)[-1]


def probe(men, grades):
    """Calls that bring to light all that the calls so far can show.

    The refused ones (a number that already holds) and the questions come
    first; deaths, years and offices behind them tell ages, year and numbers.
    """
    calls = [may(), ruler(), speaker()]
    calls += [grade(i) for i in range(men + 1)]
    for g in range(grades + 1):
        calls += [set_in(g), strength(g)]
    calls += [join_all(), join_all()]
    calls += [grade(i) for i in range(men + 1)]
    for g in range(grades):
        calls += [office(g), ruler(), speaker()]
    calls += [behind(12), behind(11)]
    calls += [born(i) for i in range(men)]
    calls += [born(), pass_years(1)]
    calls += [dies(i) for i in range(men + 2)]
    return calls
