"""What place, find, meet, below, way and parents answer when nothing is refused, and the edges of each."""

import unittest

from tests.lines import (FARTHEST, HIGHEST_NODE, LIMIT, add, back, begin, below, chain, cut, find, last, link, mark,
                         meet, parents, path, place, put, reroot, tell, tell_after, way)

# Node 0 is the root of 1 and 2; 3 and 4 hang under 1; 5 under 2, 7 under 5; 6 stands alone.
SIZE = 8
TREE = [begin(SIZE), link(1, 0), link(2, 0), link(3, 1), link(4, 1), link(5, 2), link(7, 5)]
VALUES = [put(0, 10), put(1, 20), put(2, -5), put(3, 7), put(4, -5), put(5, 100), put(6, 3), put(7, -30)]
FILLED = TREE + VALUES

WAYS = {
    (7, 0): [7, 5, 2, 0],
    (0, 7): [0, 2, 5, 7],
    (3, 7): [3, 1, 0, 2, 5, 7],
    (7, 3): [7, 5, 2, 0, 1, 3],
    (3, 4): [3, 1, 4],
    (4, 3): [4, 1, 3],
    (1, 2): [1, 0, 2],
    (2, 1): [2, 0, 1],
    (5, 2): [5, 2],
    (2, 5): [2, 5],
}


class WayTest(unittest.TestCase):
    def test_up_down_and_both(self):
        for ends, nodes in WAYS.items():
            with self.subTest(ends=ends):
                self.assertEqual(last(FILLED + [way(ends[0], ends[1])]), [0] + nodes)

    def test_one_node(self):
        for a in range(SIZE):
            self.assertEqual(last(FILLED + [way(a, a)]), [0, a])
        self.assertEqual(last([begin(1), way(0, 0)]), [0, 0])

    def test_a_chain_of_all_nodes(self):
        nodes = list(range(32))
        calls = chain(32)
        self.assertEqual(last(calls + [way(0, 31)]), [0] + nodes)
        self.assertEqual(last(calls + [way(31, 0)]), [0] + nodes[::-1])
        self.assertEqual(last(calls + [way(12, 20)]), [0] + nodes[12:21])

    def test_a_chain_of_all_nodes_bent_in_the_middle(self):
        calls = chain(32) + [reroot(16)]
        self.assertEqual(last(calls + [way(0, 31)]), [0] + list(range(32)))
        self.assertEqual(last(calls + [way(31, 0)]), [0] + list(range(31, -1, -1)))

    def test_from_b_to_a_it_is_the_same_turned_round(self):
        for a in range(SIZE):
            for b in range(SIZE):
                there = last(FILLED + [way(a, b)])
                again = last(FILLED + [way(b, a)])
                self.assertEqual(there[1:], again[1:][::-1])

    def test_after_link_and_cut(self):
        calls = FILLED + [link(6, 7), cut(1), link(1, 6)]
        self.assertEqual(last(calls + [way(3, 0)]), [0, 3, 1, 6, 7, 5, 2, 0])
        self.assertEqual(last(calls + [cut(5), way(3, 5)]), [0, 3, 1, 6, 7, 5])
        self.assertEqual(last(calls + [cut(5), way(3, 0)]), [-2])


class PlaceTest(unittest.TestCase):
    def test_every_place_of_every_way(self):
        for ends, nodes in WAYS.items():
            for i, node in enumerate(nodes):
                with self.subTest(ends=ends, i=i):
                    self.assertEqual(last(FILLED + [place(ends[0], ends[1], i)]), [0, node])

    def test_past_the_last(self):
        for ends, nodes in WAYS.items():
            for i in (len(nodes), len(nodes) + 1, 32, 99, HIGHEST_NODE):
                with self.subTest(ends=ends, i=i):
                    self.assertEqual(last(FILLED + [place(ends[0], ends[1], i)]), [-3])

    def test_one_node(self):
        for a in range(SIZE):
            self.assertEqual(last(FILLED + [place(a, a, 0)]), [0, a])
            for i in (1, 2, SIZE, HIGHEST_NODE):
                self.assertEqual(last(FILLED + [place(a, a, i)]), [-3])

    def test_a_chain_of_all_nodes(self):
        for i in range(32):
            self.assertEqual(last(chain(32) + [place(0, 31, i)]), [0, i])
            self.assertEqual(last(chain(32) + [place(31, 0, i)]), [0, 31 - i])
        self.assertEqual(last(chain(32) + [place(0, 31, 32)]), [-3])
        self.assertEqual(last(chain(32) + [place(31, 0, 32)]), [-3])

    def test_i_is_no_node(self):
        # With two nodes, i = 2 is past the way but no node that isn't there.
        self.assertEqual(last(chain(2) + [place(0, 1, 2)]), [-3])


class FindTest(unittest.TestCase):
    def test_first_middle_last_and_none(self):
        # From 3 to 7 the values are 7, 20, 10, -5, 100, -30.
        expected = {-30: 3, 0: 3, 7: 3, 8: 1, 20: 1, 21: 5, 100: 5}
        for v, node in expected.items():
            with self.subTest(v=v):
                self.assertEqual(last(FILLED + [find(3, 7, v)]), [0, node])
        self.assertEqual(last(FILLED + [find(3, 7, 101)]), [-3])
        # The other way round: -30, 100, -5, 10, 20, 7.
        expected = {-31: 7, -30: 7, -29: 5, 7: 5, 100: 5}
        for v, node in expected.items():
            with self.subTest(v=v):
                self.assertEqual(last(FILLED + [find(7, 3, v)]), [0, node])
        self.assertEqual(last(FILLED + [find(7, 3, 101)]), [-3])

    def test_the_last_node_of_the_way(self):
        self.assertEqual(last(FILLED + [find(4, 1, 0)]), [0, 1])
        self.assertEqual(last(FILLED + [find(0, 5, 11)]), [0, 5])
        self.assertEqual(last(FILLED + [find(7, 5, 100)]), [0, 5])

    def test_where_the_way_turns(self):
        self.assertEqual(last(FILLED + [find(2, 1, 10)]), [0, 0])
        self.assertEqual(last(FILLED + [find(3, 4, 20)]), [0, 1])

    def test_only_the_way_is_searched(self):
        self.assertEqual(last(FILLED + [find(3, 2, 21)]), [-3])
        self.assertEqual(last(FILLED + [find(7, 7, 0)]), [-3])

    def test_far_past_the_limits(self):
        for a, b in ((3, 7), (7, 3), (6, 6), (0, 5)):
            self.assertEqual(last(FILLED + [find(a, b, FARTHEST)]), [-3])
            self.assertEqual(last(FILLED + [find(a, b, LIMIT + 1)]), [-3])
            self.assertEqual(last(FILLED + [find(a, b, -FARTHEST)]), [0, a])
            self.assertEqual(last(FILLED + [find(a, b, -LIMIT - 1)]), [0, a])

    def test_values_at_the_limits(self):
        calls = chain(3) + [put(0, -LIMIT), put(1, LIMIT), put(2, LIMIT)]
        self.assertEqual(last(calls + [find(0, 2, LIMIT)]), [0, 1])
        self.assertEqual(last(calls + [find(0, 2, LIMIT + 1)]), [-3])
        self.assertEqual(last(calls + [find(0, 2, -LIMIT)]), [0, 0])
        self.assertEqual(last(calls + [find(0, 2, 1 - LIMIT)]), [0, 1])
        self.assertEqual(last(calls + [find(0, 0, 1 - LIMIT)]), [-3])

    def test_values_below_zero(self):
        calls = chain(4) + [put(0, -9), put(1, -4), put(2, -6), put(3, -1)]
        for v, node in {-10: 0, -9: 0, -8: 1, -5: 1, -4: 1, -3: 3, -1: 3}.items():
            with self.subTest(v=v):
                self.assertEqual(last(calls + [find(0, 3, v)]), [0, node])
        self.assertEqual(last(calls + [find(0, 3, 0)]), [-3])
        self.assertEqual(last(calls + [find(2, 0, -5)]), [0, 1])

    def test_the_first_of_equal_values(self):
        calls = FILLED + [put(1, 100)]
        self.assertEqual(last(calls + [find(3, 7, 100)]), [0, 1])
        self.assertEqual(last(calls + [find(7, 3, 100)]), [0, 5])
        for a in range(6):
            for b in range(6):
                self.assertEqual(last(TREE + [find(a, b, 0)]), [0, a])
                self.assertEqual(last(TREE + [find(a, b, 1)]), [-3])

    def test_a_chain_of_all_nodes(self):
        calls = chain(32) + [put(a, a) for a in range(32)]
        for v in range(32):
            self.assertEqual(last(calls + [find(0, 31, v)]), [0, v])
            self.assertEqual(last(calls + [find(31, 0, v)]), [0, 31])
        self.assertEqual(last(calls + [find(0, 31, 32)]), [-3])

    def test_after_put_and_add(self):
        self.assertEqual(last(FILLED + [put(0, 500), find(3, 7, 101)]), [0, 0])
        self.assertEqual(last(FILLED + [add(7, 5, 50), find(3, 7, 101)]), [0, 5])
        self.assertEqual(last(FILLED + [add(3, 7, -80), find(3, 7, 0)]), [0, 5])


class MeetTest(unittest.TestCase):
    def met(self, calls, pairs):
        for ends, node in pairs.items():
            with self.subTest(calls=calls, ends=ends):
                self.assertEqual(last(calls + [meet(ends[0], ends[1])]), [0, node])
                self.assertEqual(last(calls + [meet(ends[1], ends[0])]), [0, node])

    def test_one_above_the_other(self):
        self.met(FILLED, {(0, 7): 0, (2, 7): 2, (5, 7): 5, (1, 3): 1, (0, 4): 0, (0, 1): 0})

    def test_a_node_and_itself(self):
        self.met(FILLED, {(a, a): a for a in range(SIZE)})

    def test_two_leaves(self):
        self.met(FILLED, {(3, 4): 1, (3, 7): 0, (4, 7): 0})

    def test_nodes_in_the_middle(self):
        self.met(FILLED, {(1, 2): 0, (1, 5): 0, (3, 5): 0, (3, 2): 0})

    def test_after_reroot(self):
        self.met(FILLED + [reroot(3)], {(3, 4): 3, (1, 4): 1, (4, 7): 1, (0, 4): 1, (0, 7): 0, (2, 5): 2, (1, 0): 1})
        self.met(FILLED + [reroot(5)], {(3, 4): 1, (0, 2): 2, (7, 3): 5, (7, 5): 5, (4, 0): 0, (1, 0): 0})
        self.met(FILLED + [reroot(1)], {(3, 4): 1, (3, 7): 1, (0, 1): 1, (0, 7): 0})
        self.met(FILLED + [reroot(3), reroot(0)], {(3, 4): 1, (3, 7): 0, (2, 7): 2})

    def test_after_reroot_in_another_tree(self):
        self.met(FILLED + [reroot(6)], {(3, 4): 1, (3, 7): 0, (6, 6): 6})

    def test_after_link_and_cut(self):
        self.met(FILLED + [link(6, 4)], {(6, 3): 1, (6, 4): 4, (6, 7): 0})
        self.met(FILLED + [link(0, 6)], {(3, 7): 0, (6, 7): 6})
        self.met(FILLED + [cut(1), link(1, 5)], {(3, 7): 5, (3, 4): 1, (3, 0): 0, (1, 2): 2})

    def test_a_chain_of_all_nodes(self):
        self.met(chain(32), {(0, 31): 0, (31, 17): 17, (30, 31): 30})
        self.met(chain(32) + [reroot(16)], {(0, 31): 16, (31, 17): 17, (0, 10): 10})
        self.met(chain(32) + [reroot(31)], {(0, 31): 31, (5, 17): 17})

    def test_it_lies_on_the_way(self):
        for a in range(6):
            for b in range(6):
                for top in range(6):
                    calls = FILLED + [reroot(top)]
                    node = last(calls + [meet(a, b)])[1]
                    self.assertIn(node, last(calls + [way(a, b)])[1:])


class BelowTest(unittest.TestCase):
    def counted(self, calls, expected):
        found = tell_after(calls, [below(a) for a in range(len(expected))])
        self.assertEqual(found, [[0] + list(part) for part in expected])

    def test_roots_leaves_and_nodes_in_the_middle(self):
        self.counted(FILLED, [(7, 97), (3, 22), (3, 65), (1, 7), (1, -5), (2, 70), (1, 3), (1, -30)])

    def test_nothing_put(self):
        self.counted(TREE, [(7, 0), (3, 0), (3, 0), (1, 0), (1, 0), (2, 0), (1, 0), (1, 0)])
        self.counted([begin(1)], [(1, 0)])

    def test_values_below_zero(self):
        self.counted(chain(3) + [put(0, -1), put(1, -20), put(2, -300)], [(3, -321), (2, -320), (1, -300)])

    def test_after_reroot(self):
        self.counted(FILLED + [reroot(2)], [(4, 32), (3, 22), (7, 97), (1, 7), (1, -5), (2, 70), (1, 3), (1, -30)])
        self.counted(FILLED + [reroot(3)], [(4, 75), (6, 90), (3, 65), (7, 97), (1, -5), (2, 70), (1, 3), (1, -30)])
        self.counted(FILLED + [reroot(7)], [(4, 32), (3, 22), (5, 27), (1, 7), (1, -5), (6, 127), (1, 3), (7, 97)])

    def test_after_cut(self):
        self.counted(FILLED + [cut(1)], [(4, 75), (3, 22), (3, 65), (1, 7), (1, -5), (2, 70), (1, 3), (1, -30)])
        self.counted(FILLED + [cut(5)], [(5, 27), (3, 22), (1, -5), (1, 7), (1, -5), (2, 70), (1, 3), (1, -30)])

    def test_after_link(self):
        self.counted(FILLED + [link(6, 4)], [(8, 100), (4, 25), (3, 65), (1, 7), (2, -2), (2, 70), (1, 3), (1, -30)])
        self.counted(FILLED + [link(0, 6)], [(7, 97), (3, 22), (3, 65), (1, 7), (1, -5), (2, 70), (8, 100), (1, -30)])
        self.counted(FILLED + [cut(2), link(2, 3), reroot(2)],
                     [(1, 10), (3, 25), (7, 97), (4, 32), (1, -5), (2, 70), (1, 3), (1, -30)])

    def test_after_put_and_add(self):
        self.counted(FILLED + [put(4, 1000), add(3, 2, 1)],
                     [(7, 1106), (3, 1029), (3, 66), (1, 8), (1, 1000), (2, 70), (1, 3), (1, -30)])

    def test_a_chain_of_all_nodes(self):
        for sign in (1, -1):
            calls = chain(32) + [put(a, sign * LIMIT) for a in range(32)]
            self.counted(calls, [(32 - a, sign * LIMIT * (32 - a)) for a in range(32)])
            self.counted(calls + [reroot(31)], [(a + 1, sign * LIMIT * (a + 1)) for a in range(32)])

    def test_many_children(self):
        calls = [begin(32)] + [link(a, 31) for a in range(31)] + [put(a, a) for a in range(32)]
        self.counted(calls, [(1, a) for a in range(31)] + [(32, 496)])


class ParentsTest(unittest.TestCase):
    def hung(self, calls, expected):
        self.assertEqual(last(calls + [parents()]), [0] + expected)

    def test_one_node(self):
        self.hung([begin(1)], [99])

    def test_all_nodes(self):
        self.hung([begin(32)], [99] * 32)
        self.hung(chain(32), [99] + list(range(31)))
        self.hung(chain(32) + [reroot(31)], list(range(1, 32)) + [99])
        self.hung([begin(32)] + [link(a, 31) for a in range(31)], [31] * 31 + [99])

    def test_roots_and_others(self):
        self.hung(FILLED, [99, 0, 0, 1, 1, 2, 99, 5])

    def test_after_reroot(self):
        self.hung(FILLED + [reroot(7)], [2, 0, 5, 1, 1, 7, 99, 99])
        self.hung(FILLED + [reroot(1)], [1, 99, 0, 1, 1, 2, 99, 5])
        self.hung(FILLED + [reroot(0), reroot(6)], [99, 0, 0, 1, 1, 2, 99, 5])

    def test_after_cut(self):
        self.hung(FILLED + [cut(1)], [99, 99, 0, 1, 1, 2, 99, 5])
        self.hung(FILLED + [cut(7), cut(2)], [99, 0, 99, 1, 1, 2, 99, 99])

    def test_after_link(self):
        self.hung(FILLED + [link(0, 6)], [6, 0, 0, 1, 1, 2, 99, 5])
        self.hung(FILLED + [link(6, 3), cut(3), link(3, 7)], [99, 0, 0, 7, 1, 2, 3, 5])

    def test_after_back(self):
        self.hung(FILLED + [mark(), reroot(7), cut(0), link(6, 4), back(0)], [99, 0, 0, 1, 1, 2, 99, 5])
        self.hung(FILLED + [mark(), back(0), reroot(7)], [2, 0, 5, 1, 1, 7, 99, 99])

    def test_what_it_tells_is_not_changed_later(self):
        parts = tell(chain(3) + [parents(), reroot(2), parents(), way(0, 2), path(0, 2)])
        self.assertEqual(parts[3:], [[0, 99, 0, 1], [0], [0, 1, 2, 99], [0, 0, 1, 2], [0, 3, 0, 0, 0]])


if __name__ == "__main__":
    unittest.main()
