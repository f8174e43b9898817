"""Marks: their numbers, going back to them, that later changes don't reach them, and what open does to them."""

import unittest

from tests.lines import (HIGHEST_NODE, LIMIT, MOST_MARKS, add, back, begin, below, chain, cut, find, last, link, look,
                         look_at_marks, mark, meet, parents, path, place, put, reroot, root, tell, way)

# 1 and 2 hang under 0, 3 under 1, 4 under 3; 6 under 5.
SIZE = 7
FOREST = [begin(SIZE), link(1, 0), link(2, 0), link(3, 1), link(4, 3), link(6, 5),
          put(0, 5), put(1, -8), put(2, 40), put(3, -8), put(4, 6), put(5, 1), put(6, -2)]

# Each call that changes the forest, as it is accepted on FOREST.
CHANGES = {"put": [put(3, 77)], "add": [add(4, 2, -3)], "link": [link(5, 4)], "cut": [cut(3)], "reroot": [reroot(4)]}
ALL_CHANGES = [put(3, 77), add(4, 2, -3), link(5, 4), cut(3), reroot(4), link(0, 6), put(6, LIMIT)]


def stages(count):
    """Calls that take marks one after another, each of another forest: as many as count tells."""
    steps = [put(0, 1), cut(3), reroot(4), link(4, 2), add(6, 5, 9), link(5, 0), put(5, -4), reroot(6)]
    calls = list(FOREST)
    for step in steps[:count]:
        calls += [step, mark()]
    return calls


def before_mark(i):
    """The calls that lead to the forest that stages marks as i, without any mark."""
    return [call for call in stages(i + 1) if call != mark()]


class MarkTest(unittest.TestCase):
    def test_numbers_go_up_from_zero(self):
        for calls in ([begin(1)], FOREST, chain(32)):
            parts = tell(calls + [mark()] * MOST_MARKS)
            self.assertEqual(parts[-MOST_MARKS:], [[0, i] for i in range(MOST_MARKS)])

    def test_the_ninth_is_refused(self):
        calls = stages(MOST_MARKS)
        self.assertEqual(tell(calls + [mark(), mark()])[-3:], [[0, 7], [-5], [-5]])
        self.assertEqual(look(calls + [mark()], SIZE), look(calls, SIZE))
        self.assertEqual(look_at_marks(calls + [mark()], SIZE), look_at_marks(calls, SIZE))

    def test_a_ninth_marks_nothing(self):
        calls = stages(MOST_MARKS) + [put(0, 1234), mark(), back(7)]
        self.assertEqual(look(calls, SIZE), look(before_mark(7), SIZE))

    def test_there_is_room_again_after_back(self):
        calls = stages(MOST_MARKS) + [mark(), back(6), mark(), mark()]
        self.assertEqual(tell(calls)[-4:], [[-5], [0], [0, 7], [-5]])

    def test_marking_leaves_the_forest(self):
        self.assertEqual(look(FOREST + [mark()], SIZE), look(FOREST, SIZE))
        self.assertEqual(look(FOREST + [mark()] * MOST_MARKS, SIZE), look(FOREST, SIZE))

    def test_each_mark_holds_its_own_forest(self):
        marked = [look(before_mark(i), SIZE) for i in range(MOST_MARKS)]
        self.assertTrue(all(one not in marked[:i] for i, one in enumerate(marked)))
        for i in range(MOST_MARKS):
            with self.subTest(i=i):
                calls = stages(MOST_MARKS) + [back(i)]
                self.assertEqual(last(calls), [0])
                self.assertEqual(look(calls, SIZE), look(before_mark(i), SIZE))


class BackTest(unittest.TestCase):
    def test_marks_above_are_gone_and_those_below_stay(self):
        for i in range(MOST_MARKS):
            calls = stages(MOST_MARKS) + [back(i)]
            for j in range(MOST_MARKS):
                with self.subTest(i=i, j=j):
                    self.assertEqual(last(calls + [back(j)]), [0] if j <= i else [-6])
                    kept = j if j <= i else i
                    self.assertEqual(look(calls + [back(j)], SIZE), look(before_mark(kept), SIZE))

    def test_the_mark_stays(self):
        for i in range(3):
            calls = stages(3) + [back(i)] + ALL_CHANGES + [back(i)]
            self.assertEqual(last(calls), [0])
            self.assertEqual(look(calls, SIZE), look(before_mark(i), SIZE))
            calls += [put(0, -1), back(i), back(i)]
            self.assertEqual(look(calls, SIZE), look(before_mark(i), SIZE))

    def test_the_next_mark_s_number(self):
        for i in range(MOST_MARKS - 1):
            calls = stages(MOST_MARKS) + [back(i), put(0, 99), mark()]
            self.assertEqual(last(calls), [0, i + 1])
            self.assertEqual(last(calls + [put(0, 98), back(i + 1), path(0, 0)]), [0, 1, 99, 99, 0])
            self.assertEqual(last(calls + [back(i + 2)]), [-6])
        self.assertEqual(last(stages(MOST_MARKS) + [back(7), mark()]), [-5])

    def test_step_by_step_down(self):
        calls = stages(MOST_MARKS)
        for i in reversed(range(MOST_MARKS)):
            calls += [back(i)]
            self.assertEqual(look(calls, SIZE), look(before_mark(i), SIZE))

    def test_back_right_behind_the_mark(self):
        self.assertEqual(tell(FOREST + [mark(), back(0)])[-2:], [[0, 0], [0]])
        self.assertEqual(look(FOREST + [mark(), back(0)], SIZE), look(FOREST, SIZE))

    def test_no_such_mark(self):
        for count in range(MOST_MARKS + 1):
            calls = stages(count)
            for i in (count, count + 1, 8, 99, HIGHEST_NODE):
                with self.subTest(count=count, i=i):
                    self.assertEqual(last(calls + [back(i)]), [-6])
                    self.assertEqual(look(calls + [back(i)], SIZE), look(calls, SIZE))
                    self.assertEqual(look_at_marks(calls + [back(i)], SIZE), look_at_marks(calls, SIZE))

    def test_right_after_open(self):
        for n in (1, 32):
            for i in (0, 1, 7, n, HIGHEST_NODE):
                self.assertEqual(tell([begin(n), back(i)]), [[0], [-6]])

    def test_i_is_no_node(self):
        calls = [begin(1), mark(), put(0, 3), mark(), put(0, 4)]
        self.assertEqual(tell(calls + [back(1), path(0, 0), back(2)])[-3:], [[0], [0, 1, 3, 3, 0], [-6]])

    def test_all_answers_are_those_of_the_marked_moment(self):
        # Written out, so that this holds without a second run of the program.
        questions = [parents(), root(4), root(6), path(4, 2), way(4, 2), meet(4, 2), meet(3, 4), below(1), below(5),
                     place(4, 2, 2), place(4, 2, 5), find(4, 2, 7), find(4, 2, 41), path(4, 6)]
        expected = [[0, 99, 0, 0, 1, 3, 99, 5], [0, 0], [0, 5], [0, 5, 35, -8, 3], [0, 4, 3, 1, 0, 2], [0, 0], [0, 3],
                    [0, 3, -10], [0, 2, -1], [0, 1], [-3], [0, 2], [-3], [-2]]
        for calls in (FOREST, FOREST + [mark()] + ALL_CHANGES + [back(0)]):
            self.assertEqual(tell(calls + questions)[len(calls):], expected)


class ChangesAfterMarkTest(unittest.TestCase):
    def test_none_reaches_what_is_marked(self):
        for name, change in CHANGES.items():
            with self.subTest(name=name):
                self.assertEqual(last(FOREST + change), [0])
                self.assertNotEqual(look(FOREST + change, SIZE), look(FOREST, SIZE))
                calls = FOREST + [mark()] + change + [back(0)]
                self.assertEqual(look(calls, SIZE), look(FOREST, SIZE))

    def test_all_of_them_together(self):
        self.assertEqual(tell(FOREST + ALL_CHANGES)[-len(ALL_CHANGES):], [[0]] * len(ALL_CHANGES))
        self.assertEqual(look(FOREST + [mark()] + ALL_CHANGES + [back(0)], SIZE), look(FOREST, SIZE))

    def test_none_after_a_back_reaches_it_either(self):
        for name, change in CHANGES.items():
            with self.subTest(name=name):
                calls = FOREST + [mark()] + ALL_CHANGES + [back(0)] + change
                self.assertEqual(last(calls), [0])
                self.assertEqual(look(calls, SIZE), look(FOREST + change, SIZE))
                self.assertEqual(look(calls + [back(0)], SIZE), look(FOREST, SIZE))

    def test_changes_between_two_marks(self):
        for name, change in CHANGES.items():
            with self.subTest(name=name):
                calls = FOREST + [mark()] + change + [mark(), put(0, 0), add(1, 1, 50), reroot(1)]
                self.assertEqual(look(calls + [back(1)], SIZE), look(FOREST + change, SIZE))
                self.assertEqual(look(calls + [back(0)], SIZE), look(FOREST, SIZE))
                self.assertEqual(look(calls + [back(1), back(0)], SIZE), look(FOREST, SIZE))

    def test_two_marks_of_one_forest(self):
        calls = FOREST + [mark(), mark()] + ALL_CHANGES + [back(1)]
        self.assertEqual(look(calls, SIZE), look(FOREST, SIZE))
        self.assertEqual(look(calls + ALL_CHANGES + [back(0)], SIZE), look(FOREST, SIZE))

    def test_changes_go_on_from_the_marked_forest(self):
        calls = FOREST + [mark()] + ALL_CHANGES + [back(0)] + ALL_CHANGES
        self.assertEqual(tell(calls)[-len(ALL_CHANGES):], [[0]] * len(ALL_CHANGES))
        self.assertEqual(look(calls, SIZE), look(FOREST + ALL_CHANGES, SIZE))

    def test_questions_and_refused_calls_leave_marks(self):
        calls = stages(3)
        marks = look_at_marks(calls, SIZE)
        for call in (parents(), root(4), path(0, 2), way(0, 2), meet(0, 2), below(0), place(0, 2, 1), find(0, 2, 1),
                     root(SIZE), path(0, SIZE), put(0, LIMIT + 1), add(0, 2, 2 * LIMIT), cut(1 + SIZE), back(3)):
            with self.subTest(call=call):
                self.assertEqual(look_at_marks(calls + [call], SIZE), marks)


class OpenTest(unittest.TestCase):
    def test_an_accepted_open_drops_all_marks(self):
        for n in (1, SIZE, 32):
            for count in (1, 3, MOST_MARKS):
                calls = stages(count) + [begin(n)]
                with self.subTest(n=n, count=count):
                    self.assertEqual(last(calls), [0])
                    for i in range(MOST_MARKS):
                        self.assertEqual(last(calls + [back(i)]), [-6])
                    self.assertEqual(last(calls + [mark()]), [0, 0])
                    self.assertEqual(last(calls + [back(0), parents()]), [0] + [99] * n)

    def test_a_refused_open_keeps_them(self):
        for n in (0, 33, HIGHEST_NODE):
            for count in (0, 1, 3, MOST_MARKS):
                calls = stages(count)
                with self.subTest(n=n, count=count):
                    self.assertEqual(last(calls + [begin(n)]), [-1])
                    self.assertEqual(look(calls + [begin(n)], SIZE), look(calls, SIZE))
                    self.assertEqual(look_at_marks(calls + [begin(n)], SIZE), look_at_marks(calls, SIZE))

    def test_marks_of_one_size_and_an_open_of_another(self):
        for small, large in ((1, 32), (3, 8)):
            for first, second in ((small, large), (large, small)):
                with self.subTest(first=first, second=second):
                    calls = [begin(first), put(0, 7), mark(), begin(second), back(0), mark(), put(0, 8), back(0)]
                    self.assertEqual(tell(calls)[2:], [[0, 0], [0], [-6], [0, 0], [0], [0]])
                    self.assertEqual(look(calls, second), look([begin(second)], second))

    def test_all_eight_again_after_an_open(self):
        parts = tell(stages(MOST_MARKS) + [mark(), begin(2)] + [mark()] * (MOST_MARKS + 1))
        self.assertEqual(parts[-MOST_MARKS - 3:], [[-5], [0]] + [[0, i] for i in range(MOST_MARKS)] + [[-5]])


if __name__ == "__main__":
    unittest.main()
