"""The form of what is handed in and given back, and that nothing is changed, kept or printed."""

import contextlib
import inspect
import io
import sys
import unittest

from tests.lines import (LIMIT, MOST_CALLS, MOST_MARKS, add, back, begin, below, chain, cut, find, flat, link, mark,
                         meet, parents, path, place, put, reroot, root, split, way)
from treewaysdesk.forest import answers

MIXED = flat(chain(4) + [put(2, -6), add(0, 3, 2), path(3, 0), mark(), reroot(3), root(0), cut(3), cut(0), link(0, 9),
                         link(0, 0), begin(40), path(0, 1), way(1, 3), place(1, 3, 2), find(2, 1, 0), meet(1, 3),
                         below(2), parents(), back(0), parents(), back(1)])
MIXED_ANSWERS = [1, 0, 1, 0, 1, 0, 1, 0, 1, 0, 1, 0, 5, 0, 4, 2, -4, 2, 2, 0, 0, 1, 0, 2, 0, 3, 1, -2, 1, 0, 1, -1,
                 1, -3, 1, -1, 1, -2, 4, 0, 1, 2, 3, 2, 0, 3, 2, 0, 1, 2, 0, 3, 3, 0, 2, -2, 5, 0, 99, 2, 3, 99, 1, 0,
                 5, 0, 99, 0, 1, 2, 1, -6]


class GuardedList(list):
    """A list that tells of each try to change it, even one that is undone at once."""

    def refuse(self, *given, **named):
        raise AssertionError("the list handed in was to be changed")

    __setitem__ = __delitem__ = __iadd__ = __imul__ = refuse
    append = clear = extend = insert = pop = remove = reverse = sort = refuse


class FormTest(unittest.TestCase):
    def test_the_name_of_its_argument(self):
        self.assertEqual(list(inspect.signature(answers).parameters), ["calls"])
        self.assertEqual(answers(calls=[1, 1]), [1, 0])

    def test_each_call_written_out(self):
        self.assertEqual(answers([1, 3]), [1, 0])
        self.assertEqual(answers([1, 3, 2, 0, 1]), [1, 0, 1, 0])
        self.assertEqual(answers([1, 3, 2, 0, 1, 3, 0]), [1, 0, 1, 0, 1, 0])
        self.assertEqual(answers([1, 3, 2, 0, 1, 4, 0]), [1, 0, 1, 0, 2, 0, 1])
        self.assertEqual(answers([1, 3, 2, 0, 1, 5, 0, 4, 1]), [1, 0, 1, 0, 1, 0, 2, 0, 0])
        self.assertEqual(answers([1, 3, 6, 2, -7, 8, 2, 2]), [1, 0, 1, 0, 5, 0, 1, -7, -7, 2])
        self.assertEqual(answers([1, 3, 2, 0, 1, 7, 0, 1, 4, 8, 1, 0]), [1, 0, 1, 0, 1, 0, 5, 0, 2, 8, 4, 1])
        self.assertEqual(answers([1, 3, 2, 0, 1, 9, 0, 1, 1]), [1, 0, 1, 0, 2, 0, 1])
        self.assertEqual(answers([1, 3, 6, 2, 5, 10, 2, 2, 5]), [1, 0, 1, 0, 2, 0, 2])
        self.assertEqual(answers([1, 3, 2, 0, 1, 11, 0, 1]), [1, 0, 1, 0, 2, 0, 1])
        self.assertEqual(answers([1, 3, 2, 0, 1, 6, 0, -9, 12, 1]), [1, 0, 1, 0, 1, 0, 3, 0, 2, -9])
        self.assertEqual(answers([1, 3, 13, 13]), [1, 0, 2, 0, 0, 2, 0, 1])
        self.assertEqual(answers([1, 3, 13, 2, 0, 1, 14, 0, 16]), [1, 0, 2, 0, 0, 1, 0, 1, 0, 4, 0, 99, 99, 99])
        self.assertEqual(answers([1, 3, 2, 0, 1, 15, 1, 0]), [1, 0, 1, 0, 3, 0, 1, 0])
        self.assertEqual(answers([1, 3, 2, 0, 1, 16]), [1, 0, 1, 0, 4, 0, 1, 99, 99])

    def test_a_mixed_list(self):
        self.assertEqual(answers(MIXED), MIXED_ANSWERS)

    def test_a_refusal_does_not_end_the_list(self):
        self.assertEqual(answers([3, 0, 1, 0, 1, 1, 4, 1, 4, 0]), [1, -10, 1, -1, 1, 0, 1, -1, 2, 0, 0])

    def test_numbers_told_may_be_below_zero(self):
        told = answers([1, 1, 6, 0, -LIMIT, 8, 0, 0])
        self.assertEqual(told, [1, 0, 1, 0, 5, 0, 1, -LIMIT, -LIMIT, 0])
        self.assertEqual(answers([1, 1, 6, 0, -10, 12, 0]), [1, 0, 1, 0, 3, 0, 1, -10])

    def test_kinds(self):
        told = answers(MIXED)
        self.assertIs(type(told), list)
        for number in told:
            self.assertIs(type(number), int)


class LengthTest(unittest.TestCase):
    def test_one_call(self):
        self.assertEqual(answers([1, 32]), [1, 0])
        self.assertEqual(answers([1, 33]), [1, -1])
        self.assertEqual(answers([4, 0]), [1, -10])

    def test_two_hundred_calls(self):
        calls = chain(32)
        while len(calls) < MOST_CALLS - 1:
            calls.append(add(len(calls) % 32, 31 - len(calls) % 32, 1))
        calls.append(path(0, 31))
        self.assertEqual(len(calls), MOST_CALLS)
        parts = split(answers(flat(calls)))
        self.assertEqual(parts[:-1], [[0]] * (MOST_CALLS - 1))
        # Nodes 15 and 16 are on every one of the 167 ways; the ends on the fewest.
        values = [0] * 32
        for place in range(32, MOST_CALLS - 1):
            ends = sorted((place % 32, 31 - place % 32))
            for node in range(ends[0], ends[1] + 1):
                values[node] += 1
        self.assertEqual(values[15], 167)
        self.assertEqual(parts[-1], [0, 32, sum(values), min(values), values.index(min(values))])

    def test_two_hundred_opens(self):
        self.assertEqual(answers([1, 32] * MOST_CALLS), [1, 0] * MOST_CALLS)

    def test_the_longest_answers(self):
        calls = chain(32) + [way(0, 31), parents()] * ((MOST_CALLS - 32) // 2)
        self.assertEqual(len(calls), MOST_CALLS)
        whole = [33, 0] + list(range(32)) + [33, 0, 99] + list(range(31))
        self.assertEqual(answers(flat(calls)), [1, 0] * 32 + whole * ((MOST_CALLS - 32) // 2))

    def test_two_hundred_marks(self):
        told = answers([1, 32] + [13] * (MOST_CALLS - 1))
        marks = [number for i in range(MOST_MARKS) for number in (2, 0, i)]
        self.assertEqual(told, [1, 0] + marks + [1, -5] * (MOST_CALLS - 1 - MOST_MARKS))
        self.assertEqual(answers([13] * MOST_CALLS), [1, -10] * MOST_CALLS)

    def test_two_hundred_refusals(self):
        self.assertEqual(answers([7, 0, 0, 1] * MOST_CALLS), [1, -10] * MOST_CALLS)


class NothingChangedTest(unittest.TestCase):
    def test_the_list_is_the_same_after(self):
        calls = list(MIXED)
        answers(calls)
        self.assertEqual(calls, MIXED)

    def test_the_list_is_not_changed_for_a_while_either(self):
        self.assertEqual(answers(GuardedList(MIXED)), MIXED_ANSWERS)

    def test_a_new_list_is_given_back(self):
        calls = list(MIXED)
        told = answers(calls)
        self.assertIsNot(told, calls)
        told.clear()
        self.assertEqual(calls, MIXED)
        self.assertEqual(answers(calls), MIXED_ANSWERS)


class NothingKeptTest(unittest.TestCase):
    def test_twice_the_same(self):
        first = answers(MIXED)
        self.assertEqual(answers(MIXED), first)
        self.assertIsNot(answers(MIXED), first)

    def test_no_forest_is_left(self):
        answers([1, 32, 2, 0, 1])
        self.assertEqual(answers([4, 0]), [1, -10])
        self.assertEqual(answers([1, 2, 4, 0]), [1, 0, 2, 0, 0])

    def test_no_mark_is_left(self):
        answers([1, 32] + [13] * MOST_MARKS)
        self.assertEqual(answers([1, 2, 14, 0, 13]), [1, 0, 1, -6, 2, 0, 0])
        self.assertEqual(answers([14, 0]), [1, -10])


class NothingElseTest(unittest.TestCase):
    def test_nothing_is_printed_or_read(self):
        out = io.StringIO()
        err = io.StringIO()
        before = sys.stdin
        sys.stdin = None
        try:
            with contextlib.redirect_stdout(out), contextlib.redirect_stderr(err):
                answers(MIXED)
        finally:
            sys.stdin = before
        self.assertEqual(out.getvalue() + err.getvalue(), "")

    def test_nothing_is_imported(self):
        before = set(sys.modules)
        answers(MIXED)
        self.assertEqual(set(sys.modules), before)

    def test_few_calls_within_one_another(self):
        calls = chain(32) + [mark(), reroot(31), add(0, 31, 1), way(0, 31), place(0, 31, 31), find(0, 31, 2),
                             meet(0, 31), below(31), parents(), back(0), add(0, 31, 1)]
        calls += [path(0, 31)] * (MOST_CALLS - len(calls))
        limit = sys.getrecursionlimit()
        sys.setrecursionlimit(len(inspect.stack()) + 15)
        try:
            told = answers(flat(calls))
        finally:
            sys.setrecursionlimit(limit)
        self.assertEqual(split(told)[-1], [0, 32, 32, 1, 0])


if __name__ == "__main__":
    unittest.main()
