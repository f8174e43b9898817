"""Every refusal, which of several counts, and that a refusal leaves all as it was."""

import unittest

from tests.lines import (FARTHEST, HIGHEST_NODE, LIMIT, add, begin, cut, last, link, look, path, put, reroot, root,
                         split, tell)
from treewaysdesk.forest import answers

# 1 and 2 hang under 0, 3 under 2; 4 and 5 are another tree, with 4 its root.
SIZE = 6
FOREST = [begin(SIZE), link(1, 0), link(2, 0), link(3, 2), link(5, 4),
          put(0, 5), put(1, -8), put(2, 40), put(3, -8), put(4, LIMIT), put(5, -LIMIT)]

EACH_CALL = {"link": link(0, 1), "cut": cut(0), "root": root(0), "reroot": reroot(0),
             "put": put(0, 1), "add": add(0, 0, 1), "path": path(0, 0)}


class RefusalTest(unittest.TestCase):
    def refused(self, call, number, before=FOREST, size=SIZE):
        """The call is answered by the number alone, and the forest is as before."""
        after = list(before) + [call]
        with self.subTest(call=call, before=before):
            self.assertEqual(last(after), [number])
            self.assertEqual(look(after, size), look(before, size))


class NoForestTest(unittest.TestCase):
    def test_every_call_before_open(self):
        for name, call in EACH_CALL.items():
            with self.subTest(name=name):
                self.assertEqual(answers(list(call)), [1, -10])

    def test_before_all_other_refusals(self):
        for call in (link(0, 0), cut(HIGHEST_NODE), root(HIGHEST_NODE), reroot(HIGHEST_NODE),
                     put(HIGHEST_NODE, FARTHEST), add(HIGHEST_NODE, 0, FARTHEST), path(0, HIGHEST_NODE)):
            self.assertEqual(answers(list(call)), [1, -10])

    def test_after_a_refused_open(self):
        for n in (0, 33):
            for call in EACH_CALL.values():
                self.assertEqual(tell([begin(n), call]), [[-1], [-10]])

    def test_refused_calls_leave_nothing_for_the_forest_that_comes(self):
        early = list(EACH_CALL.values())
        self.assertEqual(tell(early), [[-10]] * len(early))
        self.assertEqual(look(early + FOREST, SIZE), look(FOREST, SIZE))


class OpenRefusalTest(RefusalTest):
    def test_sizes_that_are_refused(self):
        for n in (0, 33, 34, HIGHEST_NODE):
            self.assertEqual(answers([1, n]), [1, -1])

    def test_the_old_forest_stays(self):
        for n in (0, 33, HIGHEST_NODE):
            self.refused(begin(n), -1)

    def test_a_good_open_after_a_refused_one(self):
        self.assertEqual(tell([begin(0), begin(33), begin(1), root(0)]), [[-1], [-1], [0], [0, 0]])


class NoSuchNodeTest(RefusalTest):
    def test_each_node_of_each_call(self):
        for node in (SIZE, SIZE + 1, 32, 99, HIGHEST_NODE):
            for call in (link(node, 0), link(4, node), link(node, node),
                         cut(node), root(node), reroot(node), put(node, 1),
                         add(node, 0, 1), add(0, node, 1), add(node, node, 1),
                         path(node, 0), path(0, node), path(node, node)):
                self.refused(call, -1)

    def test_the_size_that_counts_is_the_newest_forest_s(self):
        self.assertEqual(tell([begin(3), begin(2), root(1), root(2)]), [[0], [0], [0, 1], [-1]])
        self.assertEqual(tell([begin(2), begin(3), root(2), root(3)]), [[0], [0], [0, 2], [-1]])

    def test_in_the_largest_forest(self):
        for node in (32, 33, 99, HIGHEST_NODE):
            for call in (link(node, 0), link(0, node), cut(node), root(node), reroot(node), put(node, 1),
                         add(node, 0, 1), add(0, node, 1), path(node, 0), path(0, node)):
                self.assertEqual(last([begin(32), call]), [-1])
        self.assertEqual(last([begin(32), root(31)]), [0, 31])

    def test_the_other_numbers_are_no_nodes(self):
        self.assertEqual(last(FOREST + [put(0, SIZE)]), [0])
        self.assertEqual(last(FOREST + [add(0, 1, 32)]), [0])


class LinkRefusalTest(RefusalTest):
    def test_a_has_a_parent(self):
        self.refused(link(1, 4), -2)
        self.refused(link(5, 0), -2)

    def test_joined(self):
        self.refused(link(0, 1), -3)
        self.refused(link(0, 3), -3)
        self.refused(link(4, 5), -3)

    def test_a_root_with_itself(self):
        self.refused(link(0, 0), -3)
        self.refused(link(4, 4), -3)
        self.refused(link(0, 0), -3, [begin(1)], 1)

    def test_a_parent_counts_before_joined(self):
        self.refused(link(1, 0), -2)
        self.refused(link(3, 1), -2)
        self.refused(link(3, 3), -2)

    def test_no_such_node_counts_before_a_parent(self):
        self.refused(link(1, SIZE), -1)
        self.refused(link(SIZE, 1), -1)


class CutRefusalTest(RefusalTest):
    def test_no_parent(self):
        self.refused(cut(0), -2)
        self.refused(cut(4), -2)

    def test_a_second_time(self):
        self.refused(cut(2), -2, FOREST + [cut(2)])

    def test_the_new_root(self):
        self.refused(cut(3), -2, FOREST + [reroot(3)])


class PutRefusalTest(RefusalTest):
    def test_past_the_limits(self):
        for v in (LIMIT + 1, -LIMIT - 1, FARTHEST, -FARTHEST):
            for a in range(SIZE):
                self.refused(put(a, v), -2)

    def test_no_such_node_counts_first(self):
        for v in (LIMIT + 1, -LIMIT - 1, FARTHEST, -FARTHEST):
            for node in (SIZE, 32, HIGHEST_NODE):
                self.refused(put(node, v), -1)


class AddRefusalTest(RefusalTest):
    def test_not_joined(self):
        self.refused(add(0, 4, 1), -2)
        self.refused(add(5, 3, 0), -2)

    def test_past_the_limits(self):
        self.refused(add(4, 5, 1), -3)
        self.refused(add(5, 4, 1), -3)
        self.refused(add(4, 5, -1), -3)
        self.refused(add(5, 4, -1), -3)
        self.refused(add(4, 4, 1), -3)
        self.refused(add(5, 5, -1), -3)

    def test_one_step_decides(self):
        # On the way from 1 to 3 the greatest value is 40, the least -8.
        self.assertEqual(last(FOREST + [add(1, 3, LIMIT - 40)]), [0])
        self.refused(add(1, 3, LIMIT - 39), -3)
        self.assertEqual(last(FOREST + [add(1, 3, 8 - LIMIT)]), [0])
        self.refused(add(1, 3, 7 - LIMIT), -3)

    def test_not_joined_counts_before_the_limits(self):
        for d in (1, -1, FARTHEST, -FARTHEST):
            self.refused(add(4, 0, d), -2)
            self.refused(add(0, 5, d), -2)

    def test_no_such_node_counts_first(self):
        self.refused(add(4, SIZE, FARTHEST), -1)
        self.refused(add(SIZE, 4, FARTHEST), -1)


class PathRefusalTest(RefusalTest):
    def test_not_joined(self):
        self.refused(path(0, 4), -2)
        self.refused(path(5, 3), -2)
        self.refused(path(0, 2), -2, FOREST + [cut(2)])

    def test_no_such_node_counts_first(self):
        self.refused(path(4, SIZE), -1)


class AskingTest(unittest.TestCase):
    def test_what_is_asked_changes_nothing(self):
        questions = [root(a) for a in range(SIZE)]
        questions += [path(a, b) for a in range(SIZE) for b in range(SIZE)]
        for question in questions:
            with self.subTest(question=question):
                self.assertEqual(look(FOREST + [question], SIZE), look(FOREST, SIZE))
        self.assertEqual(look(FOREST + questions, SIZE), look(FOREST, SIZE))

    def test_a_refusal_stands_alone(self):
        told = answers([8, 0, 0, 1, 2, 8, 0, 1, 4, 2, 7, 0, 0, FARTHEST])
        self.assertEqual(told, [1, -10, 1, 0, 1, -2, 1, -1, 1, -3])
        self.assertEqual(split(told), [[-10], [0], [-2], [-1], [-3]])


if __name__ == "__main__":
    unittest.main()
