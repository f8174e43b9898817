"""Long mixed lists of all sixteen calls, held against a slow forest that is written another way."""

import random
import unittest

from tests.lines import FARTHEST, HIGHEST_NODE, LIMIT, MOST_CALLS, MOST_MARKS, flat, split
from treewaysdesk.forest import answers

NODES_OF_CALL = {2: 2, 3: 1, 4: 1, 5: 1, 6: 1, 7: 2, 8: 2, 9: 2, 10: 2, 11: 2, 12: 1, 13: 0, 14: 0, 15: 2, 16: 0}
CHANGING = (2, 3, 5, 6, 7)


class SlowForest:
    """A set of (child, parent) pairs and a list of values; ways are searched from neighbour to neighbour.

    A mark is how many changes were made before it: to go back, these are made again from the beginning.
    """

    def __init__(self):
        self.values = None
        self.pairs = set()
        self.changes = []
        self.marks = []

    def search(self, a, b):
        ways = [[a]]
        while ways:
            way = ways.pop()
            if way[-1] == b:
                return way
            for pair in self.pairs:
                if way[-1] in pair:
                    other = pair[0] + pair[1] - way[-1]
                    if other not in way:
                        ways.append(way + [other])
        return None

    def is_child(self, a):
        return any(child == a for child, parent in self.pairs)

    def top(self, a):
        joined = [b for b in range(len(self.values)) if self.search(a, b)]
        tops = [b for b in joined if not self.is_child(b)]
        if len(tops) != 1:
            raise AssertionError(f"not one root: {tops!r}")
        return tops[0]

    def is_above(self, c, a):
        while a != c and self.is_child(a):
            a = dict(self.pairs)[a]
        return a == c

    def clear(self, n):
        self.values = [0] * n
        self.pairs = set()

    def answer(self, call):
        number = call[0]
        given = call[1:]
        if number == 1:
            if given[0] not in range(1, 33):
                return [-1]
            self.clear(given[0])
            self.changes = []
            self.marks = []
            return [0]
        if self.values is None:
            return [-10]
        nodes = given[:NODES_OF_CALL[number]]
        if any(node >= len(self.values) for node in nodes):
            return [-1]
        told = (self.answer_none, self.answer_one, self.answer_two)[len(nodes)](number, given)
        if number in CHANGING and told == [0]:
            self.changes.append(call)
        return told

    def answer_none(self, number, given):
        if number == 13:
            if len(self.marks) == MOST_MARKS:
                return [-5]
            self.marks.append(len(self.changes))
            return [0, len(self.marks) - 1]
        if number == 14:
            if given[0] not in range(len(self.marks)):
                return [-6]
            self.marks = self.marks[:given[0] + 1]
            again = self.changes[:self.marks[-1]]
            self.clear(len(self.values))
            self.changes = []
            for call in again:
                self.answer(call)
            return [0]
        above = dict(self.pairs)
        return [0] + [above.get(a, 99) for a in range(len(self.values))]

    def answer_one(self, number, given):
        a = given[0]
        if number == 3:
            if not self.is_child(a):
                return [-2]
            self.pairs = {pair for pair in self.pairs if pair[0] != a}
            return [0]
        if number == 4:
            return [0, self.top(a)]
        if number == 5:
            way = self.search(a, self.top(a))
            for lower, upper in zip(way, way[1:]):
                self.pairs.remove((lower, upper))
                self.pairs.add((upper, lower))
            return [0]
        if number == 12:
            under = [value for b, value in enumerate(self.values) if self.is_above(a, b)]
            return [0, len(under), sum(under)]
        if abs(given[1]) > LIMIT:
            return [-2]
        self.values[a] = given[1]
        return [0]

    def answer_two(self, number, given):
        way = self.search(given[0], given[1])
        if number == 2:
            if self.is_child(given[0]):
                return [-2]
            if way is not None:
                return [-3]
            self.pairs.add((given[0], given[1]))
            return [0]
        if way is None:
            return [-2]
        if number == 7:
            raised = {node: self.values[node] + given[2] for node in way}
            if any(abs(value) > LIMIT for value in raised.values()):
                return [-3]
            for node, value in raised.items():
                self.values[node] = value
            return [0]
        return self.ask_way(number, given, way)

    def ask_way(self, number, given, way):
        if number == 9:
            return [0, way[given[2]]] if given[2] < len(way) else [-3]
        if number == 10:
            enough = [node for node in way if self.values[node] >= given[2]]
            return [0, enough[0]] if enough else [-3]
        if number == 11:
            both = [c for c in range(len(self.values)) if self.is_above(c, given[0]) and self.is_above(c, given[1])]
            lowest = [c for c in both if all(self.is_above(other, c) for other in both)]
            if len(lowest) != 1:
                raise AssertionError(f"not one node to meet in: {lowest!r}")
            return [0, lowest[0]]
        if number == 15:
            return [0] + way
        told = [(self.values[node], place, node) for place, node in enumerate(way)]
        least = min(told)
        return [0, len(way), sum(value for value, place, node in told), least[0], least[2]]


def some_node(source, n):
    if source.randrange(60) == 0:
        return source.choice((n, n + 1, 32, 99, HIGHEST_NODE))
    return source.randrange(n)


def some_value(source):
    kind = source.randrange(12)
    if kind == 0:
        return source.choice((LIMIT, -LIMIT, LIMIT + 1, -LIMIT - 1, FARTHEST, -FARTHEST))
    if kind == 1:
        return source.randrange(-LIMIT, LIMIT + 1)
    return source.randrange(-3, 4)


def some_number(source, most):
    if source.randrange(15) == 0:
        return source.choice((most, most + 1, 32, 99, HIGHEST_NODE))
    return source.randrange(most)


def some_call(source, number, n):
    call = (number,) + tuple(some_node(source, n) for place in range(NODES_OF_CALL[number]))
    if number in (6, 7, 10):
        return call + (some_value(source),)
    if number == 9:
        return call + (some_number(source, 6),)
    if number == 14:
        return call + (some_number(source, source.choice((1, 3, 6, MOST_MARKS))),)
    return call


def some_calls(seed):
    """As many calls as a list may have, with each of the sixteen among them."""
    source = random.Random(seed)
    often = [2] * 10 + [3, 3, 4, 4, 5, 5] + [6, 7, 8, 9, 10, 11, 12, 15] * 3 + [16, 16]
    often += source.choice(([13], [13, 13, 13], [13, 13, 14], [13, 14]))
    numbers = list(range(1, 17)) + [1] * source.randrange(3)
    numbers += source.choices(often, k=MOST_CALLS - len(numbers))
    source.shuffle(numbers)
    # Most lists begin with an open; the others come to theirs later on.
    if source.randrange(10):
        numbers.remove(1)
        numbers.insert(0, 1)
    n = source.choice((1, 2, 3, 5, 8, 13, 32))
    calls = []
    for number in numbers:
        if number != 1:
            calls.append(some_call(source, number, n))
        elif not calls or source.randrange(2):
            calls.append((1, n))
        elif source.randrange(2):
            calls.append((1, source.choice((0, 33, HIGHEST_NODE))))
        else:
            n = source.choice((1, 6, 20, 32))
            calls.append((1, n))
    return calls


class ModelTest(unittest.TestCase):
    def test_mixed_lists(self):
        seen = {}
        for seed in range(400):
            calls = some_calls(seed)
            slow = SlowForest()
            expected = [slow.answer(call) for call in calls]
            found = split(answers(flat(calls)))
            if found != expected:
                place = [x == y for x, y in zip(found, expected)].index(False)
                self.fail(f"seed {seed}, call {place}, {calls[place]}: {found[place]}, not {expected[place]}")
            for call, answer in zip(calls, expected):
                seen[(call[0], min(answer[0], 0))] = True
        self.assertEqual(sorted(seen), self.all_outcomes())

    def all_outcomes(self):
        """Each call with each first number that its row names: the lists must have come to all of them."""
        rows = {1: (0, -1), 2: (0, -1, -2, -3, -10), 3: (0, -1, -2, -10), 4: (0, -1, -10), 5: (0, -1, -10),
                6: (0, -1, -2, -10), 7: (0, -1, -2, -3, -10), 8: (0, -1, -2, -10), 9: (0, -1, -2, -3, -10),
                10: (0, -1, -2, -3, -10), 11: (0, -1, -2, -10), 12: (0, -1, -10), 13: (0, -5, -10),
                14: (0, -6, -10), 15: (0, -1, -2, -10), 16: (0, -10)}
        return sorted((number, first) for number, row in rows.items() for first in row)

    def test_each_list_has_all_sixteen_calls(self):
        for seed in range(400):
            calls = some_calls(seed)
            self.assertEqual(len(calls), MOST_CALLS)
            self.assertEqual({call[0] for call in calls}, set(range(1, 17)))

    def test_the_list_is_the_same_after_and_twice_gives_the_same(self):
        for seed in range(100):
            numbers = flat(some_calls(seed))
            handed = list(numbers)
            first = answers(handed)
            self.assertEqual(handed, numbers)
            self.assertEqual(answers(handed), first)
            self.assertEqual(handed, numbers)

    def test_other_lists_between_leave_nothing(self):
        numbers = flat(some_calls(1))
        first = answers(numbers)
        for seed in range(2, 30):
            answers(flat(some_calls(seed)))
            self.assertEqual(answers(numbers), first)


if __name__ == "__main__":
    unittest.main()
