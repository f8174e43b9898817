"""Long mixed lists of calls, held against a slow forest that is written another way."""

import random
import unittest

from tests.lines import FARTHEST, HIGHEST_NODE, LIMIT, MOST_CALLS, flat, split
from treewaysdesk.forest import answers


class SlowForest:
    """A set of (child, parent) pairs and a list of values; ways are searched from neighbour to neighbour."""

    def __init__(self):
        self.values = None
        self.pairs = set()

    def search(self, a, b):
        ways = [[a]]
        while ways:
            way = ways.pop()
            if way[-1] == b:
                return way
            for pair in self.pairs:
                if way[-1] in pair:
                    other = pair[0] + pair[1] - way[-1]
                    if other not in way:
                        ways.append(way + [other])
        return None

    def is_child(self, a):
        return any(child == a for child, parent in self.pairs)

    def top(self, a):
        joined = [b for b in range(len(self.values)) if self.search(a, b)]
        tops = [b for b in joined if not self.is_child(b)]
        if len(tops) != 1:
            raise AssertionError(f"not one root: {tops!r}")
        return tops[0]

    def answer(self, call):
        number = call[0]
        given = call[1:]
        if number == 1:
            if given[0] not in range(1, 33):
                return [-1]
            self.values = [0] * given[0]
            self.pairs = set()
            return [0]
        if self.values is None:
            return [-10]
        nodes = given[:{2: 2, 7: 2, 8: 2}.get(number, 1)]
        if max(nodes) >= len(self.values):
            return [-1]
        if len(nodes) == 2:
            return self.answer_two(number, given)
        return self.answer_one(number, given)

    def answer_one(self, number, given):
        a = given[0]
        if number == 3:
            if not self.is_child(a):
                return [-2]
            self.pairs = {pair for pair in self.pairs if pair[0] != a}
            return [0]
        if number == 4:
            return [0, self.top(a)]
        if number == 5:
            way = self.search(a, self.top(a))
            for lower, upper in zip(way, way[1:]):
                self.pairs.remove((lower, upper))
                self.pairs.add((upper, lower))
            return [0]
        if abs(given[1]) > LIMIT:
            return [-2]
        self.values[a] = given[1]
        return [0]

    def answer_two(self, number, given):
        way = self.search(given[0], given[1])
        if number == 2:
            if self.is_child(given[0]):
                return [-2]
            if way is not None:
                return [-3]
            self.pairs.add((given[0], given[1]))
            return [0]
        if way is None:
            return [-2]
        if number == 7:
            raised = {node: self.values[node] + given[2] for node in way}
            if any(abs(value) > LIMIT for value in raised.values()):
                return [-3]
            for node, value in raised.items():
                self.values[node] = value
            return [0]
        told = [(self.values[node], place, node) for place, node in enumerate(way)]
        least = min(told)
        return [0, len(way), sum(value for value, place, node in told), least[0], least[2]]


def some_node(source, n):
    if source.randrange(60) == 0:
        return source.choice((n, n + 1, 32, 99, HIGHEST_NODE))
    return source.randrange(n)


def some_value(source):
    kind = source.randrange(12)
    if kind == 0:
        return source.choice((LIMIT, -LIMIT, LIMIT + 1, -LIMIT - 1, FARTHEST, -FARTHEST))
    if kind == 1:
        return source.randrange(-LIMIT, LIMIT + 1)
    return source.randrange(-3, 4)


def some_calls(seed):
    source = random.Random(seed)
    n = source.choice((1, 2, 3, 5, 8, 13, 32))
    calls = [(1, n)] if source.randrange(10) else []
    while len(calls) < MOST_CALLS:
        number = source.choice((2, 2, 2, 2, 3, 4, 5, 6, 6, 7, 7, 8, 8, 8))
        if source.randrange(120) == 0:
            n = source.choice((1, 6, 20, 32))
            calls.append((1, source.choice((n, n, 0, 33, HIGHEST_NODE))))
        elif number in (2, 8):
            calls.append((number, some_node(source, n), some_node(source, n)))
        elif number == 6:
            calls.append((6, some_node(source, n), some_value(source)))
        elif number == 7:
            calls.append((7, some_node(source, n), some_node(source, n), some_value(source)))
        else:
            calls.append((number, some_node(source, n)))
    return calls


class ModelTest(unittest.TestCase):
    def test_mixed_lists(self):
        seen = {}
        for seed in range(300):
            calls = some_calls(seed)
            slow = SlowForest()
            expected = [slow.answer(call) for call in calls]
            found = split(answers(flat(calls)))
            if found != expected:
                place = [x == y for x, y in zip(found, expected)].index(False)
                self.fail(f"seed {seed}, call {place}, {calls[place]}: {found[place]}, not {expected[place]}")
            for call, answer in zip(calls, expected):
                seen[(call[0], min(answer[0], 0))] = True
        self.assertEqual(sorted(seen), self.all_outcomes())

    def all_outcomes(self):
        """Each call with each first number that its row names: the lists must have come to all of them."""
        rows = {1: (0, -1), 2: (0, -1, -2, -3, -10), 3: (0, -1, -2, -10), 4: (0, -1, -10), 5: (0, -1, -10),
                6: (0, -1, -2, -10), 7: (0, -1, -2, -3, -10), 8: (0, -1, -2, -10)}
        return sorted((number, first) for number, row in rows.items() for first in row)


if __name__ == "__main__":
    unittest.main()
