"""Calls by their names, and the answers call by call."""

from nodenames.holders import answers

MOST = 4294967295


def begin(n):
    return [0, n]


def claim(n, p, name):
    return [1, n, p, name]


def free(n, p, name):
    return [2, n, p, name]


def dies(n, p):
    return [3, n, p]


def part(n, m):
    return [4, n, m]


def meet(n, m):
    return [5, n, m]


def tell(n, m):
    return [6, n, m]


def take(k):
    return [7, k]


def keep(k):
    return [8, k]


def lose(k):
    return [9, k]


def turns(n):
    return [10, n]


def who(n, name):
    return [11, n, name]


def names(n):
    return [12, n]


def lost(n, p):
    return [13, n, p]


def claims(n):
    return [14, n]


def air():
    return [15]


def joined(calls):
    return [number for call in calls for number in call]


def ask(*calls):
    """The answers to the calls, a list for each."""
    told = answers(joined(calls))
    split = []
    place = 0
    while place < len(told):
        if told[place] < 1:
            raise AssertionError(f"an answer of {told[place]} numbers at {place} of {told}")
        behind = place + 1 + told[place]
        split.append(told[place + 1:behind])
        place = behind
    if len(split) != len(calls):
        raise AssertionError(f"{len(calls)} calls have {len(split)} answers")
    return split


def last(*calls):
    return ask(*calls)[-1]


def rows(told, width):
    """What stands behind a count, as rows of so many numbers; the count must fit them."""
    if len(told) != 1 + told[0] * width:
        raise AssertionError(f"{told} is not a count and so many rows of {width} numbers")
    return [tuple(told[place:place + width]) for place in range(1, len(told), width)]


def claims_in(told):
    """The count, the nodes reached and the rows of claims that an answer of claims tells."""
    behind = 2 + told[1]
    return told[0], told[2:behind], rows(told[behind:], 5)


def forty_claims(n):
    """Node n makes 40 claims; those on names 0 to 9 by process 4 are not given up at the end."""
    calls = []
    for process in range(1, 5):
        if process > 1:
            calls.append(dies(n, process - 1))
        calls.extend(claim(n, process, name) for name in range(10))
    return calls


def numbers_from(seed):
    """The same numbers each time, so that a failure can be looked at again."""
    state = seed
    while True:
        state = (state * 1103515245 + 12345) % 2147483648
        yield state // 65536


def drawn_call(draw, nodes):
    """A call of any kind but begin on so many nodes, mostly one that is not refused."""
    node = next(draw) % nodes + 1
    other = (node + next(draw) % (nodes - 1)) % nodes + 1
    process = next(draw) % 9 + 1 if next(draw) % 4 == 0 else next(draw) % 2 + 1
    name = next(draw) % 10 if next(draw) % 4 == 0 else next(draw) % 2
    which = next(draw) % 4 + 1
    odd = next(draw) % 40
    if odd < 3:
        node = (0, nodes + 1, MOST)[odd]
    elif odd < 6:
        process = (0, 10, MOST)[odd - 3]
    elif odd < 8:
        name = (10, MOST)[odd - 6]
    elif odd < 11:
        which = (0, 501, MOST)[odd - 8]
    elif odd == 11:
        other = node
    kinds = [
        claim(node, process, name), claim(node, process, name), claim(node, process, name), free(node, process, name),
        dies(node, process), part(node, other), meet(node, other), meet(node, other), tell(node, other),
        tell(node, other), take(which), keep(which), keep(which), lose(which), turns(which % 502), who(node, name),
        names(node), lost(node, process), claims(node), air(),
    ]
    return kinds[next(draw) % len(kinds)]


def drawn_calls(seed, length):
    """A list of so many calls of all kinds: begin stands first, and sometimes again."""
    draw = numbers_from(seed)
    nodes = next(draw) % 3 + 2
    calls = [begin(nodes)]
    while len(calls) < length:
        if next(draw) % 200 == 0:
            drawn = next(draw) % 7
            calls.append(begin(drawn))
            nodes = drawn if drawn in (2, 3, 4) else nodes
        else:
            calls.append(drawn_call(draw, nodes))
    return calls
