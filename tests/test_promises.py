"""The promises: always a forest, the forest as it is, rooting anew, whole adds, and what changes nothing."""

import itertools
import unittest

from tests.lines import LIMIT, add, begin, chain, cut, last, link, look, path, put, reroot, root, tell, tell_after

# Two trees: 0 above 1, 2, 3; 1 above 4 and 5; 5 above 6; and 7 above 8.
SIZE = 9
LINKS = [link(1, 0), link(2, 0), link(3, 0), link(4, 1), link(5, 1), link(6, 5), link(8, 7)]
PUTS = [put(0, 4), put(1, -2), put(2, -9), put(3, 11), put(4, -9), put(5, 3), put(6, -2), put(7, 1), put(8, 0)]
FOREST = [begin(SIZE)] + LINKS + PUTS


def all_ways(calls, n):
    return tell_after(calls, [path(a, b) for a in range(n) for b in range(n)])


class AlwaysAForestTest(unittest.TestCase):
    def test_no_link_closes_a_circle(self):
        for n in range(1, 9):
            calls = chain(n)
            for b in range(n):
                self.assertEqual(last(calls + [link(0, b)]), [-3])
                self.assertEqual(look(calls + [link(0, b)], n), look(calls, n))

    def test_no_circle_round_all_nodes(self):
        calls = chain(32) + [link(0, 31), reroot(16), link(16, 0), link(16, 31)]
        self.assertEqual(tell(calls)[-4:], [[-3], [0], [-3], [-3]])
        self.assertEqual(tell_after(calls, [root(a) for a in range(32)]), [[0, 16]] * 32)

    def test_every_try_to_link_three_nodes(self):
        # Whatever is tried in whatever order, each node has one root, and that root is its own.
        tries = [link(a, b) for a in range(3) for b in range(3)]
        for some in itertools.product(tries, repeat=3):
            calls = [begin(3)] + list(some)
            parts = tell(calls + [root(a) for a in range(3)])
            links = parts[1:4].count([0])
            roots = [part[1] for part in parts[4:]]
            self.assertEqual(len(set(roots)), 3 - links)
            self.assertEqual([roots[top] for top in roots], roots)

    def test_joined_means_one_root(self):
        for calls in (FOREST, FOREST + [reroot(6), cut(1)], FOREST + [cut(1), link(7, 6)]):
            roots = [part[1] for part in tell_after(calls, [root(a) for a in range(SIZE)])]
            for a in range(SIZE):
                for b in range(SIZE):
                    joined = last(calls + [path(a, b)])[0] == 0
                    self.assertEqual(joined, roots[a] == roots[b])


class ForestAsItIsTest(unittest.TestCase):
    def same(self, calls):
        self.assertEqual(look(calls, SIZE), look(FOREST, SIZE))

    def test_links_in_any_order(self):
        self.same([begin(SIZE)] + list(reversed(LINKS)) + PUTS)
        self.same([begin(SIZE)] + PUTS + LINKS[3:] + LINKS[:3])

    def test_cut_and_linked_again(self):
        for a, b in ((1, 0), (2, 0), (5, 1), (6, 5), (8, 7)):
            self.same(FOREST + [cut(a), link(a, b)])

    def test_turned_and_turned_back(self):
        for a in range(7):
            self.same(FOREST + [reroot(a), reroot(0)])
        self.same(FOREST + [reroot(6), reroot(4), reroot(8), reroot(2), reroot(7), reroot(0)])

    def test_built_from_other_roots(self):
        self.same([begin(SIZE), link(0, 1), link(2, 0), link(3, 0), link(4, 1), link(1, 5), link(6, 5), link(7, 8)]
                  + PUTS + [reroot(0), reroot(7)])

    def test_added_and_taken_off_again(self):
        self.same(FOREST + [add(6, 2, 77), add(2, 6, -77)])
        self.same(FOREST + [add(6, 2, 77), reroot(5), add(6, 5, -77), reroot(0), add(1, 2, -77)])

    def test_values_put_again_at_last(self):
        self.same([begin(SIZE), put(3, LIMIT), put(8, -LIMIT)] + LINKS + [add(6, 4, 12)] + PUTS)

    def test_other_trees_hung_on_between(self):
        self.same(FOREST + [link(7, 6), add(8, 8, 5), reroot(8), reroot(0), cut(7), add(8, 8, -5)])

    def test_an_older_forest_leaves_nothing(self):
        self.same(chain(32) + [put(a, 5) for a in range(32)] + FOREST)


class RootingAnewTest(unittest.TestCase):
    def test_no_way_no_sum_no_least_value_changes(self):
        before = all_ways(FOREST, SIZE)
        for a in range(SIZE):
            with self.subTest(a=a):
                self.assertEqual(all_ways(FOREST + [reroot(a)], SIZE), before)

    def test_one_after_another(self):
        before = all_ways(FOREST, SIZE)
        calls = FOREST + [reroot(a) for a in (6, 2, 8, 3, 1, 4, 4, 5)]
        self.assertEqual(all_ways(calls, SIZE), before)

    def test_roots_change_in_its_own_tree_alone(self):
        for a in range(SIZE):
            roots = [part[1] for part in tell_after(FOREST + [reroot(a)], [root(x) for x in range(SIZE)])]
            expected = [a] * 7 + [7, 7] if a < 7 else [0] * 7 + [a, a]
            self.assertEqual(roots, expected)

    def test_add_goes_the_same_way(self):
        plain = all_ways(FOREST + [add(6, 2, 5)], SIZE)
        for a in range(SIZE):
            self.assertEqual(all_ways(FOREST + [reroot(a), add(6, 2, 5)], SIZE), plain)

    def test_a_chain_of_all_nodes(self):
        calls = chain(32) + [put(a, (a * 7) % 5) for a in range(32)]
        before = all_ways(calls, 32)
        for a in (0, 1, 16, 31):
            self.assertEqual(all_ways(calls + [reroot(a)], 32), before)


class WholeAddTest(unittest.TestCase):
    def test_each_node_of_a_way_may_stop_it(self):
        way = (6, 5, 1, 0, 2)
        for sign in (1, -1):
            for node in way:
                with self.subTest(node=node, sign=sign):
                    before = FOREST + [put(node, sign * LIMIT)]
                    for refused in (add(6, 2, sign), add(2, 6, sign)):
                        self.assertEqual(last(before + [refused]), [-3])
                        self.assertEqual(look(before + [refused], SIZE), look(before, SIZE))

    def test_the_same_add_is_whole_once_it_fits(self):
        calls = FOREST + [put(1, LIMIT), add(6, 2, 1), put(1, LIMIT - 1), add(6, 2, 1)]
        self.assertEqual(tell(calls)[-4:], [[0], [-3], [0], [0]])
        alone = [last(calls + [path(a, a)])[2] for a in range(SIZE)]
        self.assertEqual(alone, [5, LIMIT, -8, 11, -9, 4, -1, 1, 0])


if __name__ == "__main__":
    unittest.main()
