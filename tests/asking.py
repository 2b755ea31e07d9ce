"""Calls by their names, and the answers call by call."""

from nodenames.holders import answers

MOST = 4294967295


def begin(n):
    return [0, n]


def claim(n, p, name):
    return [1, n, p, name]


def free(n, p, name):
    return [2, n, p, name]


def dies(n, p):
    return [3, n, p]


def part(n, m):
    return [4, n, m]


def meet(n, m):
    return [5, n, m]


def tell(n, m):
    return [6, n, m]


def take(k):
    return [7, k]


def joined(calls):
    return [number for call in calls for number in call]


def ask(*calls):
    """The answers to the calls, a list for each."""
    told = answers(joined(calls))
    split = []
    place = 0
    while place < len(told):
        if told[place] < 1:
            raise AssertionError(f"an answer of {told[place]} numbers at {place} of {told}")
        behind = place + 1 + told[place]
        split.append(told[place + 1:behind])
        place = behind
    if len(split) != len(calls):
        raise AssertionError(f"{len(calls)} calls have {len(split)} answers")
    return split


def last(*calls):
    return ask(*calls)[-1]


def forty_claims(n):
    """Node n makes 40 claims; those on names 0 to 9 by process 4 are not given up at the end."""
    calls = []
    for process in range(1, 5):
        if process > 1:
            calls.append(dies(n, process - 1))
        calls.extend(claim(n, process, name) for name in range(10))
    return calls
