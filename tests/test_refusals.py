"""Every refusal, which of several counts, and that a refusal leaves all as it was."""

import unittest

from tests.lines import (FARTHEST, HIGHEST_NODE, LIMIT, add, all_questions, back, begin, below, cut, find, last, link,
                         look, look_at_marks, mark, meet, parents, path, place, put, reroot, root, split, tell, way)
from treewaysdesk.forest import answers

# 1 and 2 hang under 0, 3 under 2; 4 and 5 are another tree, with 4 its root. Two other forests are marked.
SIZE = 6
FOREST = [begin(SIZE), link(1, 0), link(2, 0), mark(), link(3, 2), link(5, 4),
          put(0, 5), put(1, -8), mark(), put(2, 40), put(3, -8), put(4, LIMIT), put(5, -LIMIT)]

EACH_CALL = {"link": link(0, 1), "cut": cut(0), "root": root(0), "reroot": reroot(0),
             "put": put(0, 1), "add": add(0, 0, 1), "path": path(0, 0), "place": place(0, 0, 0),
             "find": find(0, 0, 0), "meet": meet(0, 0), "below": below(0), "mark": mark(), "back": back(0),
             "way": way(0, 0), "parents": parents()}


class RefusalTest(unittest.TestCase):
    def refused(self, call, number, before=FOREST, size=SIZE):
        """The call is answered by the number alone, and the forest and its marks are as before."""
        after = list(before) + [call]
        with self.subTest(call=call, before=before):
            self.assertEqual(last(after), [number])
            self.assertEqual(look(after, size), look(before, size))
            self.assertEqual(look_at_marks(after, size), look_at_marks(before, size))


class NoForestTest(unittest.TestCase):
    def test_every_call_before_open(self):
        for name, call in EACH_CALL.items():
            with self.subTest(name=name):
                self.assertEqual(answers(list(call)), [1, -10])

    def test_before_all_other_refusals(self):
        for call in (link(0, 0), cut(HIGHEST_NODE), root(HIGHEST_NODE), reroot(HIGHEST_NODE),
                     put(HIGHEST_NODE, FARTHEST), add(HIGHEST_NODE, 0, FARTHEST), path(0, HIGHEST_NODE),
                     place(0, 1, HIGHEST_NODE), place(HIGHEST_NODE, 0, 0), find(0, HIGHEST_NODE, FARTHEST),
                     meet(HIGHEST_NODE, HIGHEST_NODE), below(HIGHEST_NODE), back(HIGHEST_NODE), way(0, 32)):
            self.assertEqual(answers(list(call)), [1, -10])

    def test_after_a_refused_open(self):
        for n in (0, 33):
            for call in EACH_CALL.values():
                self.assertEqual(tell([begin(n), call]), [[-1], [-10]])

    def test_refused_calls_leave_nothing_for_the_forest_that_comes(self):
        early = list(EACH_CALL.values())
        self.assertEqual(tell(early), [[-10]] * len(early))
        self.assertEqual(look(early + FOREST, SIZE), look(FOREST, SIZE))
        self.assertEqual(look_at_marks(early + FOREST, SIZE), look_at_marks(FOREST, SIZE))

    def test_marks_before_open_are_none(self):
        self.assertEqual(tell([mark()] * 9 + [begin(2), back(0), mark()]), [[-10]] * 9 + [[0], [-6], [0, 0]])


class OpenRefusalTest(RefusalTest):
    def test_sizes_that_are_refused(self):
        for n in (0, 33, 34, HIGHEST_NODE):
            self.assertEqual(answers([1, n]), [1, -1])

    def test_the_old_forest_stays(self):
        for n in (0, 33, HIGHEST_NODE):
            self.refused(begin(n), -1)

    def test_a_good_open_after_a_refused_one(self):
        self.assertEqual(tell([begin(0), begin(33), begin(1), root(0)]), [[-1], [-1], [0], [0, 0]])


class NoSuchNodeTest(RefusalTest):
    def test_each_node_of_each_call(self):
        for node in (SIZE, SIZE + 1, 32, 99, HIGHEST_NODE):
            for call in (link(node, 0), link(4, node), link(node, node),
                         cut(node), root(node), reroot(node), put(node, 1),
                         add(node, 0, 1), add(0, node, 1), add(node, node, 1),
                         path(node, 0), path(0, node), path(node, node),
                         place(node, 0, 0), place(0, node, 0), place(node, node, 0),
                         find(node, 0, 0), find(0, node, 0), find(node, node, 0),
                         meet(node, 0), meet(0, node), meet(node, node), below(node),
                         way(node, 0), way(0, node), way(node, node)):
                self.refused(call, -1)

    def test_the_size_that_counts_is_the_newest_forest_s(self):
        self.assertEqual(tell([begin(3), begin(2), root(1), root(2)]), [[0], [0], [0, 1], [-1]])
        self.assertEqual(tell([begin(2), begin(3), root(2), root(3)]), [[0], [0], [0, 2], [-1]])

    def test_in_the_largest_forest(self):
        for node in (32, 33, 99, HIGHEST_NODE):
            for call in (link(node, 0), link(0, node), cut(node), root(node), reroot(node), put(node, 1),
                         add(node, 0, 1), add(0, node, 1), path(node, 0), path(0, node),
                         place(node, 0, 0), place(0, node, 0), find(node, 0, 0), find(0, node, 0),
                         meet(node, 0), meet(0, node), below(node), way(node, 0), way(0, node)):
                self.assertEqual(last([begin(32), call]), [-1])
        self.assertEqual(last([begin(32), root(31)]), [0, 31])

    def test_the_other_numbers_are_no_nodes(self):
        self.assertEqual(last(FOREST + [put(0, SIZE)]), [0])
        self.assertEqual(last(FOREST + [add(0, 1, 32)]), [0])
        self.assertEqual(last(FOREST + [find(0, 1, SIZE)]), [-3])
        self.assertEqual(last([begin(1), mark(), mark(), back(1)]), [0])
        for i in (SIZE, 32, HIGHEST_NODE):
            self.refused(place(1, 3, i), -3)
            self.refused(back(i), -6)
        self.assertEqual(last([begin(1), place(0, 0, 1)]), [-3])


class LinkRefusalTest(RefusalTest):
    def test_a_has_a_parent(self):
        self.refused(link(1, 4), -2)
        self.refused(link(5, 0), -2)

    def test_joined(self):
        self.refused(link(0, 1), -3)
        self.refused(link(0, 3), -3)
        self.refused(link(4, 5), -3)

    def test_a_root_with_itself(self):
        self.refused(link(0, 0), -3)
        self.refused(link(4, 4), -3)
        self.refused(link(0, 0), -3, [begin(1)], 1)

    def test_a_parent_counts_before_joined(self):
        self.refused(link(1, 0), -2)
        self.refused(link(3, 1), -2)
        self.refused(link(3, 3), -2)

    def test_no_such_node_counts_before_a_parent(self):
        self.refused(link(1, SIZE), -1)
        self.refused(link(SIZE, 1), -1)


class CutRefusalTest(RefusalTest):
    def test_no_parent(self):
        self.refused(cut(0), -2)
        self.refused(cut(4), -2)

    def test_a_second_time(self):
        self.refused(cut(2), -2, FOREST + [cut(2)])

    def test_the_new_root(self):
        self.refused(cut(3), -2, FOREST + [reroot(3)])


class PutRefusalTest(RefusalTest):
    def test_past_the_limits(self):
        for v in (LIMIT + 1, -LIMIT - 1, FARTHEST, -FARTHEST):
            for a in range(SIZE):
                self.refused(put(a, v), -2)

    def test_no_such_node_counts_first(self):
        for v in (LIMIT + 1, -LIMIT - 1, FARTHEST, -FARTHEST):
            for node in (SIZE, 32, HIGHEST_NODE):
                self.refused(put(node, v), -1)


class AddRefusalTest(RefusalTest):
    def test_not_joined(self):
        self.refused(add(0, 4, 1), -2)
        self.refused(add(5, 3, 0), -2)

    def test_past_the_limits(self):
        self.refused(add(4, 5, 1), -3)
        self.refused(add(5, 4, 1), -3)
        self.refused(add(4, 5, -1), -3)
        self.refused(add(5, 4, -1), -3)
        self.refused(add(4, 4, 1), -3)
        self.refused(add(5, 5, -1), -3)

    def test_one_step_decides(self):
        # On the way from 1 to 3 the greatest value is 40, the least -8.
        self.assertEqual(last(FOREST + [add(1, 3, LIMIT - 40)]), [0])
        self.refused(add(1, 3, LIMIT - 39), -3)
        self.assertEqual(last(FOREST + [add(1, 3, 8 - LIMIT)]), [0])
        self.refused(add(1, 3, 7 - LIMIT), -3)

    def test_not_joined_counts_before_the_limits(self):
        for d in (1, -1, FARTHEST, -FARTHEST):
            self.refused(add(4, 0, d), -2)
            self.refused(add(0, 5, d), -2)

    def test_no_such_node_counts_first(self):
        self.refused(add(4, SIZE, FARTHEST), -1)
        self.refused(add(SIZE, 4, FARTHEST), -1)


class PathRefusalTest(RefusalTest):
    def test_not_joined(self):
        self.refused(path(0, 4), -2)
        self.refused(path(5, 3), -2)
        self.refused(path(0, 2), -2, FOREST + [cut(2)])

    def test_no_such_node_counts_first(self):
        self.refused(path(4, SIZE), -1)


class PlaceRefusalTest(RefusalTest):
    def test_not_joined(self):
        self.refused(place(0, 4, 0), -2)
        self.refused(place(5, 3, 0), -2)
        self.refused(place(3, 2, 1), -2, FOREST + [cut(3)])

    def test_the_way_is_too_short(self):
        for a, b, i in ((1, 3, 4), (3, 1, 4), (1, 3, HIGHEST_NODE), (2, 2, 1), (4, 5, 2)):
            self.refused(place(a, b, i), -3)

    def test_not_joined_counts_before_the_length(self):
        for i in (1, 6, 32, HIGHEST_NODE):
            self.refused(place(0, 4, i), -2)
            self.refused(place(5, 1, i), -2)

    def test_no_such_node_counts_first(self):
        self.refused(place(4, SIZE, HIGHEST_NODE), -1)
        self.refused(place(SIZE, 4, HIGHEST_NODE), -1)


class FindRefusalTest(RefusalTest):
    def test_not_joined(self):
        self.refused(find(0, 4, 0), -2)
        self.refused(find(5, 3, -FARTHEST), -2)
        self.refused(find(0, 2, 1), -2, FOREST + [cut(2)])

    def test_none(self):
        for a, b, v in ((1, 3, 41), (3, 3, -7), (4, 5, LIMIT + 1), (1, 3, FARTHEST)):
            self.refused(find(a, b, v), -3)

    def test_not_joined_counts_before_none(self):
        for v in (LIMIT + 1, FARTHEST):
            self.refused(find(0, 4, v), -2)
            self.refused(find(5, 1, v), -2)

    def test_no_such_node_counts_first(self):
        self.refused(find(4, SIZE, FARTHEST), -1)
        self.refused(find(SIZE, 4, FARTHEST), -1)


class MeetAndWayRefusalTest(RefusalTest):
    def test_not_joined(self):
        for question in (meet, way):
            self.refused(question(0, 4), -2)
            self.refused(question(5, 3), -2)
            self.refused(question(1, 3), -2, FOREST + [cut(2)])
            self.refused(question(0, 1), -2, [begin(2)], 2)

    def test_no_such_node_counts_first(self):
        for question in (meet, way):
            self.refused(question(4, SIZE), -1)
            self.refused(question(SIZE, 4), -1)


class MarkAndBackRefusalTest(RefusalTest):
    def test_eight_marks(self):
        self.refused(mark(), -5, FOREST + [mark(), cut(3), mark(), mark(), put(0, 1), mark(), mark(), mark()])

    def test_no_such_mark(self):
        for i in (2, 3, 7, 8, SIZE, HIGHEST_NODE):
            self.refused(back(i), -6)
        self.refused(back(1), -6, FOREST + [back(0)])
        self.refused(back(0), -6, FOREST + [begin(SIZE)])


class AskingTest(unittest.TestCase):
    def test_what_is_asked_changes_nothing(self):
        questions = all_questions(SIZE)
        marks = look_at_marks(FOREST, SIZE)
        for question in questions:
            with self.subTest(question=question):
                self.assertEqual(look(FOREST + [question], SIZE), look(FOREST, SIZE))
                self.assertEqual(look_at_marks(FOREST + [question], SIZE), marks)
        for start in range(0, len(questions), 100):
            some = questions[start:start + 100]
            self.assertEqual(look(FOREST + some, SIZE), look(FOREST, SIZE))
            self.assertEqual(look_at_marks(FOREST + some, SIZE), marks)

    def test_a_refusal_stands_alone(self):
        told = answers([8, 0, 0, 1, 2, 8, 0, 1, 4, 2, 7, 0, 0, FARTHEST])
        self.assertEqual(told, [1, -10, 1, 0, 1, -2, 1, -1, 1, -3])
        self.assertEqual(split(told), [[-10], [0], [-2], [-1], [-3]])


if __name__ == "__main__":
    unittest.main()
