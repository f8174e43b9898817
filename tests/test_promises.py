"""The promises: always a forest, the forest as it is, rooting anew, whole adds, and going back.

The sixth, that what's refused and what's asked changes nothing, is tested call by call in test_refusals.
"""

import itertools
import unittest

from tests.lines import (LIMIT, add, back, begin, below, chain, cut, find, last, link, look, look_at_marks, mark, meet,
                         parents, path, place, put, reroot, root, tell, tell_after, way)

# Two trees: 0 above 1, 2, 3; 1 above 4 and 5; 5 above 6; and 7 above 8.
SIZE = 9
LINKS = [link(1, 0), link(2, 0), link(3, 0), link(4, 1), link(5, 1), link(6, 5), link(8, 7)]
PUTS = [put(0, 4), put(1, -2), put(2, -9), put(3, 11), put(4, -9), put(5, 3), put(6, -2), put(7, 1), put(8, 0)]
FOREST = [begin(SIZE)] + LINKS + PUTS


def all_ways(calls, n):
    """All that rooting anew may not change: the ways, and what is told of the nodes and values on them."""
    questions = []
    for a in range(n):
        for b in range(n):
            questions += [path(a, b), way(a, b), place(a, b, 2), find(a, b, -2), find(a, b, 4)]
    return tell_after(calls, questions)


class AlwaysAForestTest(unittest.TestCase):
    def test_no_link_closes_a_circle(self):
        for n in range(1, 9):
            calls = chain(n)
            for b in range(n):
                self.assertEqual(last(calls + [link(0, b)]), [-3])
                self.assertEqual(look(calls + [link(0, b)], n), look(calls, n))

    def test_no_circle_round_all_nodes(self):
        calls = chain(32) + [link(0, 31), reroot(16), link(16, 0), link(16, 31)]
        self.assertEqual(tell(calls)[-4:], [[-3], [0], [-3], [-3]])
        self.assertEqual(tell_after(calls, [root(a) for a in range(32)]), [[0, 16]] * 32)

    def test_every_try_to_link_three_nodes(self):
        # Whatever is tried in whatever order, each node has one root, and that root is its own.
        tries = [link(a, b) for a in range(3) for b in range(3)]
        for some in itertools.product(tries, repeat=3):
            calls = [begin(3)] + list(some)
            parts = tell(calls + [root(a) for a in range(3)])
            links = parts[1:4].count([0])
            roots = [part[1] for part in parts[4:]]
            self.assertEqual(len(set(roots)), 3 - links)
            self.assertEqual([roots[top] for top in roots], roots)

    def test_no_circle_after_back(self):
        # 0 hung under 8 for a while; as marked, 7 is the one that may be hung under it, and then not 0 under 8.
        calls = FOREST + [mark(), link(0, 8), back(0), link(7, 6), link(0, 8)]
        self.assertEqual(tell(calls)[-5:], [[0, 0], [0], [0], [0], [-3]])
        self.assertEqual(tell_after(calls, [root(a) for a in range(SIZE)]), [[0, 0]] * SIZE)

    def test_parents_lead_to_one_root(self):
        for calls in (FOREST, FOREST + [reroot(6), cut(1)], FOREST + [mark(), cut(1), link(7, 6), back(0), reroot(8)]):
            above = last(calls + [parents()])[1:]
            for a in range(SIZE):
                top = a
                for step in range(SIZE):
                    if above[top] != 99:
                        top = above[top]
                self.assertEqual(above[top], 99)
                self.assertEqual(last(calls + [root(a)]), [0, top])

    def test_joined_means_one_root(self):
        for calls in (FOREST, FOREST + [reroot(6), cut(1)], FOREST + [cut(1), link(7, 6)]):
            roots = [part[1] for part in tell_after(calls, [root(a) for a in range(SIZE)])]
            for a in range(SIZE):
                for b in range(SIZE):
                    joined = last(calls + [path(a, b)])[0] == 0
                    self.assertEqual(joined, roots[a] == roots[b])


class ForestAsItIsTest(unittest.TestCase):
    def same(self, calls):
        self.assertEqual(look(calls, SIZE), look(FOREST, SIZE))

    def test_links_in_any_order(self):
        self.same([begin(SIZE)] + list(reversed(LINKS)) + PUTS)
        self.same([begin(SIZE)] + PUTS + LINKS[3:] + LINKS[:3])

    def test_cut_and_linked_again(self):
        for a, b in ((1, 0), (2, 0), (5, 1), (6, 5), (8, 7)):
            self.same(FOREST + [cut(a), link(a, b)])

    def test_turned_and_turned_back(self):
        for a in range(7):
            self.same(FOREST + [reroot(a), reroot(0)])
        self.same(FOREST + [reroot(6), reroot(4), reroot(8), reroot(2), reroot(7), reroot(0)])

    def test_built_from_other_roots(self):
        self.same([begin(SIZE), link(0, 1), link(2, 0), link(3, 0), link(4, 1), link(1, 5), link(6, 5), link(7, 8)]
                  + PUTS + [reroot(0), reroot(7)])

    def test_added_and_taken_off_again(self):
        self.same(FOREST + [add(6, 2, 77), add(2, 6, -77)])
        self.same(FOREST + [add(6, 2, 77), reroot(5), add(6, 5, -77), reroot(0), add(1, 2, -77)])

    def test_values_put_again_at_last(self):
        self.same([begin(SIZE), put(3, LIMIT), put(8, -LIMIT)] + LINKS + [add(6, 4, 12)] + PUTS)

    def test_other_trees_hung_on_between(self):
        self.same(FOREST + [link(7, 6), add(8, 8, 5), reroot(8), reroot(0), cut(7), add(8, 8, -5)])

    def test_marked_left_and_gone_back_to(self):
        self.same(FOREST + [mark(), reroot(6), cut(1), link(8, 4), link(4, 7), put(2, 500), back(0)])
        self.same(FOREST[:-4] + [mark(), put(8, 9), cut(4), mark(), back(0)] + FOREST[-4:])

    def test_an_older_forest_leaves_nothing(self):
        self.same(chain(32) + [put(a, 5) for a in range(32)] + FOREST)


class RootingAnewTest(unittest.TestCase):
    def test_no_way_no_sum_no_least_value_changes(self):
        before = all_ways(FOREST, SIZE)
        for a in range(SIZE):
            with self.subTest(a=a):
                self.assertEqual(all_ways(FOREST + [reroot(a)], SIZE), before)

    def test_one_after_another(self):
        before = all_ways(FOREST, SIZE)
        calls = FOREST + [reroot(a) for a in (6, 2, 8, 3, 1, 4, 4, 5)]
        self.assertEqual(all_ways(calls, SIZE), before)

    def test_roots_change_in_its_own_tree_alone(self):
        for a in range(SIZE):
            roots = [part[1] for part in tell_after(FOREST + [reroot(a)], [root(x) for x in range(SIZE)])]
            expected = [a] * 7 + [7, 7] if a < 7 else [0] * 7 + [a, a]
            self.assertEqual(roots, expected)

    def test_meetings_change_with_it(self):
        # With 6 as the root all of 6, 5, 1, 0 is turned: 4 and 2 meet in 1 now, 2 and 3 in 0 still.
        pairs = [(4, 2), (2, 3), (0, 6), (4, 6), (8, 7)]
        before = [last(FOREST + [meet(a, b)]) for a, b in pairs]
        after = [last(FOREST + [reroot(6), meet(a, b)]) for a, b in pairs]
        self.assertEqual(before, [[0, 0], [0, 0], [0, 0], [0, 1], [0, 7]])
        self.assertEqual(after, [[0, 1], [0, 0], [0, 6], [0, 6], [0, 7]])

    def test_what_is_below_changes_with_it(self):
        before = [last(FOREST + [below(a)])[1:] for a in range(SIZE)]
        after = [last(FOREST + [reroot(6), below(a)])[1:] for a in range(SIZE)]
        self.assertEqual(before, [[7, -4], [4, -10], [1, -9], [1, 11], [1, -9], [2, 1], [1, -2], [2, 1], [1, 0]])
        self.assertEqual(after, [[3, 6], [5, -5], [1, -9], [1, 11], [1, -9], [6, -2], [7, -4], [2, 1], [1, 0]])

    def test_it_leaves_marks(self):
        calls = FOREST + [mark(), put(0, 1), mark()]
        for a in range(SIZE):
            self.assertEqual(look_at_marks(calls + [reroot(a)], SIZE), look_at_marks(calls, SIZE))

    def test_add_goes_the_same_way(self):
        plain = all_ways(FOREST + [add(6, 2, 5)], SIZE)
        for a in range(SIZE):
            self.assertEqual(all_ways(FOREST + [reroot(a), add(6, 2, 5)], SIZE), plain)

    def test_a_chain_of_all_nodes(self):
        calls = chain(32) + [put(a, (a * 7) % 5) for a in range(32)]
        before = all_ways(calls, 32)
        for a in (0, 1, 16, 31):
            self.assertEqual(all_ways(calls + [reroot(a)], 32), before)


class WholeAddTest(unittest.TestCase):
    def test_each_node_of_a_way_may_stop_it(self):
        way = (6, 5, 1, 0, 2)
        for sign in (1, -1):
            for node in way:
                with self.subTest(node=node, sign=sign):
                    before = FOREST + [put(node, sign * LIMIT)]
                    for refused in (add(6, 2, sign), add(2, 6, sign)):
                        self.assertEqual(last(before + [refused]), [-3])
                        self.assertEqual(look(before + [refused], SIZE), look(before, SIZE))

    def test_the_same_add_is_whole_once_it_fits(self):
        calls = FOREST + [put(1, LIMIT), add(6, 2, 1), put(1, LIMIT - 1), add(6, 2, 1)]
        self.assertEqual(tell(calls)[-4:], [[0], [-3], [0], [0]])
        alone = [last(calls + [path(a, a)])[2] for a in range(SIZE)]
        self.assertEqual(alone, [5, LIMIT, -8, 11, -9, 4, -1, 1, 0])


class GoingBackTest(unittest.TestCase):
    # Each of these is accepted on FOREST, in this order.
    STEPS = [reroot(6), put(0, -LIMIT), cut(1), link(7, 4), add(8, 2, 30), reroot(8), cut(5), link(6, 2), put(3, 8)]

    def test_all_answers_are_those_of_the_marked_moment(self):
        self.assertEqual(tell(FOREST + self.STEPS)[len(FOREST):], [[0]] * len(self.STEPS))
        for place_of_mark in range(len(self.STEPS)):
            with self.subTest(place_of_mark=place_of_mark):
                before = FOREST + self.STEPS[:place_of_mark]
                calls = before + [mark()] + self.STEPS[place_of_mark:] + [back(0)]
                self.assertEqual(look(calls, SIZE), look(before, SIZE))

    def test_what_comes_after_is_as_it_would_have_been(self):
        for place_of_mark in range(len(self.STEPS)):
            with self.subTest(place_of_mark=place_of_mark):
                rest = self.STEPS[place_of_mark:]
                calls = FOREST + self.STEPS[:place_of_mark] + [mark()] + rest + [back(0)] + rest
                self.assertEqual(look(calls, SIZE), look(FOREST + self.STEPS, SIZE))

    def test_the_largest_forest(self):
        before = chain(32) + [put(a, a - 16) for a in range(32)] + [reroot(9)]
        calls = before + [mark(), reroot(31), cut(20), add(0, 20, 5), link(31, 0), back(0)]
        self.assertEqual(tell(calls)[-6:], [[0, 0], [0], [0], [0], [0], [0]])
        self.assertEqual(look(calls, 32), look(before, 32))


if __name__ == "__main__":
    unittest.main()
