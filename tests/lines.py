"""What the tests share: calls by name, their answers one by one, and a look at the whole forest."""

from treewaysdesk.forest import answers

MOST_CALLS = 200
MOST_MARKS = 8
LIMIT = 1000000000
FARTHEST = 999999999999999999
HIGHEST_NODE = 4294967295


def begin(n):
    return (1, n)


def link(a, b):
    return (2, a, b)


def cut(a):
    return (3, a)


def root(a):
    return (4, a)


def reroot(a):
    return (5, a)


def put(a, v):
    return (6, a, v)


def add(a, b, d):
    return (7, a, b, d)


def path(a, b):
    return (8, a, b)


def place(a, b, i):
    return (9, a, b, i)


def find(a, b, v):
    return (10, a, b, v)


def meet(a, b):
    return (11, a, b)


def below(a):
    return (12, a)


def mark():
    return (13,)


def back(i):
    return (14, i)


def way(a, b):
    return (15, a, b)


def parents():
    return (16,)


def chain(n):
    """Calls that make a forest of one chain: each node but node 0 hangs under the one before it."""
    return [begin(n)] + [link(node, node - 1) for node in range(1, n)]


def flat(calls):
    return [number for call in calls for number in call]


def split(told):
    """The answers one by one; fails if the counts and the list's end don't fit."""
    parts = []
    place = 0
    while place < len(told):
        count = told[place]
        part = told[place + 1:place + 1 + count]
        if count < 1 or len(part) != count:
            raise AssertionError(f"the count {count} at {place} does not fit: {told!r}")
        parts.append(part)
        place += 1 + count
    return parts


def tell(calls):
    """The answers of a list of calls, one for each call."""
    if len(calls) > MOST_CALLS:
        raise AssertionError(f"a list has at most {MOST_CALLS} calls, not {len(calls)}")
    parts = split(answers(flat(calls)))
    if len(parts) != len(calls):
        raise AssertionError(f"{len(parts)} answers to {len(calls)} calls")
    return parts


def last(calls):
    return tell(calls)[-1]


def tell_after(calls, questions):
    """The answers of the questions, each list short enough, and each behind the same calls."""
    room = MOST_CALLS - len(calls)
    parts = []
    for start in range(0, len(questions), room):
        some = questions[start:start + room]
        parts += tell(list(calls) + some)[len(calls):]
    return parts


def all_questions(n):
    """All that can be asked of a forest of n nodes: each question of all its nodes, and of one that isn't there."""
    questions = [parents(), root(n)]
    questions += [question(a) for question in (root, below) for a in range(n)]
    pairs = [(a, b) for a in range(n) for b in range(n)]
    questions += [question(a, b) for question in (path, way, meet) for a, b in pairs]
    questions += [place(a, b, i) for a, b in pairs for i in (0, 1, 3)]
    questions += [find(a, b, v) for a, b in pairs for v in (-7, 1, 5)]
    return questions


def look(calls, n):
    """All that can be asked of the forest that the calls lead to."""
    return tell_after(calls, all_questions(n))


def look_at_marks(calls, n):
    """The number that the next mark would get, and for each mark the forest that is marked, or the refusal."""
    found = [last(calls + [mark()])]
    for i in range(MOST_MARKS + 1):
        parts = tell(calls + [back(i), parents()] + [path(a, a) for a in range(n)])[len(calls):]
        # Behind a refusal stands the forest as it is, which is not marked.
        found += parts if parts[0] == [0] else parts[:1]
    return found
