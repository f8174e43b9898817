"""What each call answers when nothing is refused, and the limits of values."""

import unittest

from tests.lines import FARTHEST, LIMIT, add, begin, chain, cut, last, link, look, path, put, reroot, root, tell

# Node 0 is the root of 1 and 2; 3 and 4 hang under 1; 5 hangs under 2; 6 stands alone.
TREE = [begin(7), link(1, 0), link(2, 0), link(3, 1), link(4, 1), link(5, 2)]
VALUES = [put(0, 10), put(1, 20), put(2, -5), put(3, 7), put(4, -5), put(5, 100), put(6, 3)]
FILLED = TREE + VALUES


class OpenTest(unittest.TestCase):
    def test_sizes_that_are_taken(self):
        for n in (1, 2, 31, 32):
            with self.subTest(n=n):
                calls = [begin(n)]
                self.assertEqual(tell(calls), [[0]])
                for a in range(n):
                    self.assertEqual(last(calls + [root(a)]), [0, a])
                    self.assertEqual(last(calls + [path(a, a)]), [0, 1, 0, 0, a])
                self.assertEqual(last(calls + [root(n)]), [-1])

    def test_nodes_begin_without_a_way(self):
        for a in range(4):
            for b in range(4):
                expected = [0, 1, 0, 0, a] if a == b else [-2]
                self.assertEqual(last([begin(4), path(a, b)]), expected)

    def test_a_second_forest_is_all_new(self):
        for n in (1, 3, 7, 32):
            with self.subTest(n=n):
                self.assertEqual(last(FILLED + [begin(n)]), [0])
                self.assertEqual(look(FILLED + [begin(n)], n), look([begin(n)], n))

    def test_a_second_forest_is_built_like_a_first(self):
        self.assertEqual(look(chain(5) + [put(2, 9)] + FILLED, 7), look(FILLED, 7))


class LinkAndCutTest(unittest.TestCase):
    def test_link_hangs_the_first_under_the_second(self):
        calls = [begin(2), link(0, 1)]
        self.assertEqual(tell(calls), [[0], [0]])
        self.assertEqual(last(calls + [root(0)]), [0, 1])
        self.assertEqual(last(calls + [root(1)]), [0, 1])

    def test_link_brings_the_whole_tree_along(self):
        calls = TREE + [link(0, 6)]
        self.assertEqual(last(calls), [0])
        for a in range(7):
            self.assertEqual(last(calls + [root(a)]), [0, 6])
        self.assertEqual(last(calls + [path(3, 6)])[:2], [0, 4])

    def test_link_under_a_node_that_is_no_root(self):
        calls = TREE + [link(6, 3)]
        self.assertEqual(last(calls), [0])
        self.assertEqual(last(calls + [root(6)]), [0, 0])
        self.assertEqual(last(calls + [path(6, 0)])[:2], [0, 4])

    def test_cut_takes_the_nodes_below_along(self):
        calls = TREE + [cut(1)]
        self.assertEqual(last(calls), [0])
        found = [last(calls + [root(a)])[1] for a in range(7)]
        self.assertEqual(found, [0, 1, 0, 1, 1, 0, 6])
        self.assertEqual(last(calls + [path(3, 4)])[:2], [0, 3])
        self.assertEqual(last(calls + [path(3, 5)]), [-2])

    def test_cut_of_a_leaf(self):
        calls = TREE + [cut(5)]
        self.assertEqual(last(calls), [0])
        found = [last(calls + [root(a)])[1] for a in range(7)]
        self.assertEqual(found, [0, 0, 0, 0, 0, 5, 6])

    def test_link_after_cut(self):
        calls = TREE + [cut(1), link(1, 5)]
        self.assertEqual(last(calls), [0])
        self.assertEqual(last(calls + [path(3, 0)])[:2], [0, 5])

    def test_link_and_cut_leave_values(self):
        alone = [last(FILLED + [path(a, a)]) for a in range(7)]
        for change in (link(0, 6), link(6, 4), cut(1), cut(5)):
            calls = FILLED + [change]
            self.assertEqual([last(calls + [path(a, a)]) for a in range(7)], alone)

    def test_a_node_may_have_many_children(self):
        calls = [begin(32)] + [link(a, 31) for a in range(31)]
        self.assertEqual(tell(calls), [[0]] * 32)
        self.assertEqual(last(calls + [path(4, 30)])[:2], [0, 3])


class RootTest(unittest.TestCase):
    def test_root_of_every_node(self):
        found = [last(TREE + [root(a)]) for a in range(7)]
        self.assertEqual(found, [[0, 0]] * 6 + [[0, 6]])

    def test_root_of_a_long_chain(self):
        for a in range(32):
            self.assertEqual(last(chain(32) + [root(a)]), [0, 0])


class PutTest(unittest.TestCase):
    def test_values_within_the_limits(self):
        for v in (0, 1, -1, LIMIT - 1, LIMIT, 1 - LIMIT, -LIMIT):
            with self.subTest(v=v):
                calls = [begin(3), put(1, 5), put(1, v)]
                self.assertEqual(last(calls), [0])
                self.assertEqual(last(calls + [path(1, 1)]), [0, 1, v, v, 1])
                self.assertEqual(last(calls + [path(0, 0)]), [0, 1, 0, 0, 0])
                self.assertEqual(last(calls + [path(2, 2)]), [0, 1, 0, 0, 2])

    def test_values_past_the_limits(self):
        for v in (LIMIT + 1, -LIMIT - 1, FARTHEST, -FARTHEST):
            with self.subTest(v=v):
                calls = [begin(3), put(1, 5), put(1, v)]
                self.assertEqual(last(calls), [-2])
                self.assertEqual(last(calls + [path(1, 1)]), [0, 1, 5, 5, 1])

    def test_put_takes_the_place_of_the_value(self):
        calls = [begin(1), put(0, 400), put(0, 30)]
        self.assertEqual(last(calls + [path(0, 0)]), [0, 1, 30, 30, 0])


class AddTest(unittest.TestCase):
    def values_after(self, calls):
        return [last(calls + [path(a, a)])[2] for a in range(7)]

    def test_only_the_way_is_changed(self):
        calls = FILLED + [add(3, 5, 1000)]
        self.assertEqual(last(calls), [0])
        self.assertEqual(self.values_after(calls), [1010, 1020, 995, 1007, -5, 1100, 3])

    def test_a_way_that_turns_below_the_root(self):
        calls = FILLED + [add(3, 4, -2)]
        self.assertEqual(last(calls), [0])
        self.assertEqual(self.values_after(calls), [10, 18, -5, 5, -7, 100, 3])

    def test_ways_up_and_down(self):
        for way in ((3, 0), (0, 3)):
            calls = FILLED + [add(way[0], way[1], 1)]
            self.assertEqual(last(calls), [0])
            self.assertEqual(self.values_after(calls), [11, 21, -5, 8, -5, 100, 3])

    def test_one_node_is_added_to_once(self):
        calls = FILLED + [add(1, 1, 4)]
        self.assertEqual(last(calls), [0])
        self.assertEqual(self.values_after(calls), [10, 24, -5, 7, -5, 100, 3])

    def test_adding_nothing(self):
        self.assertEqual(last(FILLED + [add(3, 5, 0)]), [0])
        self.assertEqual(look(FILLED + [add(3, 5, 0)], 7), look(FILLED, 7))

    def test_adding_is_added_up(self):
        calls = FILLED + [add(3, 0, 1), add(4, 0, 10), add(5, 5, -100)]
        self.assertEqual(self.values_after(calls), [21, 31, -5, 8, 5, 0, 3])

    def test_up_to_just_the_limit(self):
        for sign in (1, -1):
            calls = chain(3) + [put(1, sign * 600000000), add(0, 2, sign * 400000000)]
            self.assertEqual(last(calls), [0])
            found = [last(calls + [path(a, a)])[2] for a in range(3)]
            self.assertEqual(found, [sign * 400000000, sign * LIMIT, sign * 400000000])

    def test_one_past_the_limit_at_one_node_alone(self):
        # The node is the first, a middle one and the last of the way in turn.
        for place in range(5):
            for sign in (1, -1):
                with self.subTest(place=place, sign=sign):
                    before = chain(5) + [put(a, a + 1) for a in range(5)] + [put(place, sign * 600000000)]
                    refused = add(0, 4, sign * 400000001)
                    self.assertEqual(last(before + [refused]), [-3])
                    self.assertEqual(look(before + [refused], 5), look(before, 5))

    def test_over_the_whole_span(self):
        calls = chain(2) + [put(0, -LIMIT), put(1, -LIMIT), add(0, 1, 2 * LIMIT)]
        self.assertEqual(last(calls), [0])
        self.assertEqual(last(calls + [path(0, 1)]), [0, 2, 2 * LIMIT, LIMIT, 0])
        self.assertEqual(last(calls + [add(1, 0, -2 * LIMIT), path(0, 1)]), [0, 2, -2 * LIMIT, -LIMIT, 0])

    def test_far_past_the_limits(self):
        for d in (FARTHEST, -FARTHEST):
            self.assertEqual(last(FILLED + [add(3, 5, d)]), [-3])
            self.assertEqual(look(FILLED + [add(3, 5, d)], 7), look(FILLED, 7))

    def test_nodes_off_the_way_may_be_at_the_limit(self):
        calls = FILLED + [put(4, LIMIT), put(6, LIMIT), add(3, 5, 1)]
        self.assertEqual(last(calls), [0])
        self.assertEqual(self.values_after(calls), [11, 21, -4, 8, LIMIT, 101, LIMIT])


class PathTest(unittest.TestCase):
    def test_up_down_and_both(self):
        expected = {
            (3, 0): [0, 3, 37, 7, 3],
            (0, 3): [0, 3, 37, 7, 3],
            (3, 5): [0, 5, 132, -5, 2],
            (5, 3): [0, 5, 132, -5, 2],
            (3, 4): [0, 3, 22, -5, 4],
            (4, 3): [0, 3, 22, -5, 4],
            (1, 2): [0, 3, 25, -5, 2],
            (1, 4): [0, 2, 15, -5, 4],
            (4, 1): [0, 2, 15, -5, 4],
        }
        for way, answer in expected.items():
            with self.subTest(way=way):
                self.assertEqual(last(FILLED + [path(way[0], way[1])]), answer)

    def test_one_node(self):
        self.assertEqual(last(FILLED + [path(2, 2)]), [0, 1, -5, -5, 2])
        self.assertEqual(last(FILLED + [path(6, 6)]), [0, 1, 3, 3, 6])

    def test_the_first_of_several_least(self):
        # 2 and 4 both have -5: which comes first depends on the end that one begins at.
        self.assertEqual(last(FILLED + [path(4, 5)]), [0, 5, 120, -5, 4])
        self.assertEqual(last(FILLED + [path(5, 4)]), [0, 5, 120, -5, 2])

    def test_the_first_of_all_equal(self):
        for a in range(6):
            for b in range(6):
                self.assertEqual(last(TREE + [path(a, b)])[3:], [0, a])

    def test_the_least_where_the_way_turns(self):
        calls = FILLED + [put(0, -50)]
        self.assertEqual(last(calls + [path(4, 5)]), [0, 5, 60, -50, 0])

    def test_values_below_zero(self):
        calls = chain(3) + [put(0, -3), put(1, -7), put(2, -7)]
        self.assertEqual(last(calls + [path(0, 2)]), [0, 3, -17, -7, 1])
        self.assertEqual(last(calls + [path(2, 0)]), [0, 3, -17, -7, 2])

    def test_a_chain_of_all_nodes(self):
        calls = chain(32) + [put(a, LIMIT) for a in range(32)]
        self.assertEqual(last(calls + [path(31, 0)]), [0, 32, 32 * LIMIT, LIMIT, 31])
        self.assertEqual(last(calls + [path(0, 31)]), [0, 32, 32 * LIMIT, LIMIT, 0])
        calls = calls + [add(31, 0, -2 * LIMIT)]
        self.assertEqual(last(calls + [path(0, 31)]), [0, 32, -32 * LIMIT, -LIMIT, 0])

    def test_every_way_of_a_chain(self):
        calls = chain(32) + [put(a, a) for a in range(32)]
        for a in range(32):
            for b in range(32):
                low = min(a, b)
                high = max(a, b)
                total = sum(range(low, high + 1))
                self.assertEqual(last(calls + [path(a, b)]), [0, high - low + 1, total, low, low])

    def test_a_chain_bent_in_the_middle(self):
        # Two arms of 15 and 16 nodes under node 0: a way up the one and down the other.
        calls = [begin(32)] + [link(a, a - 1) for a in range(1, 16)]
        calls += [link(16, 0)] + [link(a, a - 1) for a in range(17, 32)]
        self.assertEqual(last(calls + [add(15, 31, 1), path(15, 31)]), [0, 32, 32, 1, 15])
        self.assertEqual(last(calls + [path(31, 15)]), [0, 32, 0, 0, 31])


class RerootTest(unittest.TestCase):
    def test_a_node_in_the_middle(self):
        calls = TREE + [reroot(1)]
        self.assertEqual(last(calls), [0])
        found = [last(calls + [root(a)])[1] for a in range(7)]
        self.assertEqual(found, [1, 1, 1, 1, 1, 1, 6])

    def test_parents_after_a_leaf_is_rooted(self):
        # The way from 3 up was 3, 1, 0: now 1 hangs under 3 and 0 under 1; 2, 4, 5 stay where they hang.
        calls = TREE + [reroot(3)]
        self.assertEqual(last(calls), [0])
        self.assertEqual(last(calls + [cut(3)]), [-2])
        below = {1: [0, 1, 2, 4, 5], 0: [0, 2, 5], 2: [2, 5], 4: [4], 5: [5]}
        for top, nodes in below.items():
            with self.subTest(top=top):
                off = calls + [cut(top)]
                self.assertEqual(last(off), [0])
                found = [last(off + [root(a)])[1] for a in range(6)]
                self.assertEqual(found, [top if a in nodes else 3 for a in range(6)])

    def test_a_root_stays_as_it_is(self):
        for a in (0, 6):
            self.assertEqual(last(FILLED + [reroot(a)]), [0])
            self.assertEqual(look(FILLED + [reroot(a)], 7), look(FILLED, 7))

    def test_root_of_every_node_after_it(self):
        for a in range(6):
            calls = TREE + [reroot(a)]
            self.assertEqual([last(calls + [root(x)])[1] for x in range(7)], [a] * 6 + [6])

    def test_cut_and_link_after_it(self):
        calls = FILLED + [reroot(3), cut(0), link(3, 5)]
        self.assertEqual(tell(calls)[-3:], [[0], [0], [0]])
        self.assertEqual([last(calls + [root(a)])[1] for a in range(7)], [0, 0, 0, 0, 0, 0, 6])
        # 1, 3, 5, 2, 0: over the new link, no longer over the one that was cut.
        self.assertEqual(last(calls + [path(1, 0)]), [0, 5, 132, -5, 2])

    def test_the_old_root_may_be_cut_and_the_new_may_be_linked(self):
        calls = TREE + [reroot(5), cut(0), link(5, 6), link(0, 5)]
        self.assertEqual(tell(calls)[-4:], [[0], [0], [0], [0]])
        self.assertEqual([last(calls + [root(a)])[1] for a in range(7)], [6] * 7)

    def test_a_long_chain_turned_round(self):
        calls = chain(32) + [reroot(31)]
        for a in range(32):
            self.assertEqual(last(calls + [root(a)]), [0, 31])
        self.assertEqual(last(calls + [cut(0), root(0)]), [0, 0])
        self.assertEqual(last(calls + [cut(15), root(0)]), [0, 15])
        self.assertEqual(last(calls + [reroot(0), cut(15), root(31)]), [0, 15])


if __name__ == "__main__":
    unittest.main()
