"""What the tests share: calls by name, their answers one by one, and a look at the whole forest."""

from treewaysdesk.forest import answers

MOST_CALLS = 200
LIMIT = 1000000000
FARTHEST = 999999999999999999
HIGHEST_NODE = 4294967295


def begin(n):
    return (1, n)


def link(a, b):
    return (2, a, b)


def cut(a):
    return (3, a)


def root(a):
    return (4, a)


def reroot(a):
    return (5, a)


def put(a, v):
    return (6, a, v)


def add(a, b, d):
    return (7, a, b, d)


def path(a, b):
    return (8, a, b)


def chain(n):
    """Calls that make a forest of one chain: each node but node 0 hangs under the one before it."""
    return [begin(n)] + [link(node, node - 1) for node in range(1, n)]


def flat(calls):
    return [number for call in calls for number in call]


def split(told):
    """The answers one by one; fails if the counts and the list's end don't fit."""
    parts = []
    place = 0
    while place < len(told):
        count = told[place]
        part = told[place + 1:place + 1 + count]
        if count < 1 or len(part) != count:
            raise AssertionError(f"the count {count} at {place} does not fit: {told!r}")
        parts.append(part)
        place += 1 + count
    return parts


def tell(calls):
    """The answers of a list of calls, one for each call."""
    parts = split(answers(flat(calls)))
    if len(parts) != len(calls):
        raise AssertionError(f"{len(parts)} answers to {len(calls)} calls")
    return parts


def last(calls):
    return tell(calls)[-1]


def tell_after(calls, questions):
    """The answers of the questions, each list short enough, and each behind the same calls."""
    room = MOST_CALLS - len(calls)
    parts = []
    for start in range(0, len(questions), room):
        some = questions[start:start + room]
        parts += tell(list(calls) + some)[len(calls):]
    return parts


def look(calls, n):
    """All that can be asked of the forest that the calls lead to.

    The roots and the lengths of all ways tell every parent; the ways of one node tell every value.
    """
    questions = [root(a) for a in range(n)]
    questions += [path(a, b) for a in range(n) for b in range(n)]
    return tell_after(calls, questions + [root(n)])
