"""Point 4.1."""

import random
import unittest

from signoff.errors import BadArgument, BadRange, WrongCount
from signoff.wires import WireTree
from tests.helpers import few_calls

# The parents of the nodes from 1 on.
SHAPES = ((), (0,), (0, 1, 2, 3), (0, 0, 0, 0), (0, 1, 1, 0, 4, 2, 4), (0, 0, 1, 1, 2, 2, 3))


def tree_of(parents, resistance=(1, 2), capacitance=(3, 4)):
    return WireTree([(above, resistance, capacitance) for above in parents])


def plain_path(parents, node):
    found = [node]
    while found[0] != 0:
        found.insert(0, parents[found[0] - 1])
    return found


def plain_delay(parents, node, resistances, capacitances):
    """The sum as it is written in the document."""
    nodes = range(len(parents) + 1)
    return sum(resistances[n - 1] * sum(capacitances[m - 1] for m in nodes if n in plain_path(parents, m))
               for n in plain_path(parents, node) if n != 0)


def random_parents(source, most=9):
    return tuple(source.randrange(k + 1) for k in range(source.randrange(most)))


def random_pair(source, most=9):
    low = source.randrange(most)
    return (low, low + source.randrange(most))


class Shapes(unittest.TestCase):
    def check(self, parents):
        tree = tree_of(parents)
        self.assertEqual(len(tree), len(parents) + 1)
        self.assertEqual([tree.parent(node) for node in range(len(tree))], [-1, *parents])
        for node in range(len(tree)):
            self.assertEqual(tree.path(node), plain_path(parents, node))
            self.assertEqual(tree.below(node), [m for m in range(len(tree)) if node in plain_path(parents, m)])

    def test_chains_stars_and_mixed_trees(self):
        for parents in SHAPES:
            self.check(parents)

    def test_random_trees(self):
        source = random.Random(1)
        for _ in range(100):
            self.check(random_parents(source))

    def test_by_hand(self):
        tree = tree_of((0, 1, 1, 0, 4))
        self.assertEqual(tree.path(3), [0, 1, 3])
        self.assertEqual(tree.below(1), [1, 2, 3])
        self.assertEqual(tree.below(0), [0, 1, 2, 3, 4, 5])
        self.assertEqual((tree.path(0), tree.below(5)), ([0], [5]))

    def test_what_is_returned_is_new(self):
        tree = tree_of((0, 1))
        tree.path(2).clear()
        tree.below(0).append(7)
        self.assertEqual((tree.path(2), tree.below(0)), ([0, 1, 2], [0, 1, 2]))

    def test_a_list_that_is_changed_afterwards(self):
        segments = [(0, (1, 1), (1, 1)), (1, (1, 1), (1, 1))]
        tree = WireTree(segments)
        segments.append((0, (5, 5), (5, 5)))
        segments[0] = (0, (7, 7), (7, 7))
        self.assertEqual((len(tree), tree.delay_range(2)), (3, (3, 3)))

    def test_a_long_chain(self):
        with few_calls(50):
            tree = tree_of(tuple(range(3000)), (1, 1), (1, 1))
            self.assertEqual(tree.path(3000), list(range(3001)))
            self.assertEqual(tree.below(2990), list(range(2990, 3001)))
            self.assertEqual(tree.delay_range(3000), (3000 * 3001 // 2,) * 2)


class Delays(unittest.TestCase):
    def test_by_hand(self):
        tree = tree_of((0, 1, 1, 0))
        values = ([2, 3, 5, 7], [1, 10, 100, 1000])
        self.assertEqual([tree.delay(node, *values) for node in range(5)], [0, 222, 222 + 30, 222 + 500, 7000])

    def test_against_the_sum(self):
        source = random.Random(2)
        for parents in SHAPES + tuple(random_parents(source) for _ in range(60)):
            tree = tree_of(parents)
            for _ in range(5):
                # The values need not lie in the ranges, and may be negative.
                resistances = [source.randrange(-9, 30) for _ in parents]
                capacitances = [source.randrange(-9, 30) for _ in parents]
                for node in range(len(tree)):
                    self.assertEqual(tree.delay(node, resistances, capacitances),
                                     plain_delay(parents, node, resistances, capacitances))

    def test_the_lists_are_not_changed(self):
        lists = ([1, 2, 3], [4, 5, 6])
        tree_of((0, 1, 2)).delay(3, *lists)
        self.assertEqual(lists, ([1, 2, 3], [4, 5, 6]))

    def test_large_numbers(self):
        tree = WireTree([(0, (10 ** 40, 10 ** 41), (10 ** 50, 10 ** 50 + 1))])
        self.assertEqual(tree.delay(1, [10 ** 40], [10 ** 50]), 10 ** 90)
        self.assertEqual(tree.delay_range(1), (10 ** 90, 10 ** 91 + 10 ** 41))
        self.assertEqual(tree.delay_range(1, unit=10 ** 91), (0, 2))


class Ranges(unittest.TestCase):
    def test_rounding(self):
        tree = WireTree([(0, (2, 3), (5, 7)), (0, (0, 0), (1, 1))])
        for unit, pair in ((1, (10, 21)), (2, (5, 11)), (3, (3, 7)), (5, (2, 5)), (10, (1, 3)), (11, (0, 2)),
                           (21, (0, 1)), (100, (0, 1))):
            self.assertEqual(tree.delay_range(1, unit=unit), pair)
        self.assertEqual(tree.delay_range(1), (10, 21))
        for unit in (1, 3, 100):
            self.assertEqual(tree.delay_range(0, unit=unit), (0, 0))
            self.assertEqual(tree.delay_range(2, unit=unit), (0, 0))

    def test_random_trees(self):
        source = random.Random(3)
        for _ in range(80):
            parents = random_parents(source)
            segments = [(above, random_pair(source), random_pair(source)) for above in parents]
            tree = WireTree(segments)
            for node in range(len(tree)):
                unit = source.randrange(1, 12)
                low, high = tree.delay_range(node, unit=unit)
                least, most = [plain_delay(parents, node, [row[1][end] for row in segments],
                                           [row[2][end] for row in segments]) for end in (0, 1)]
                self.assertTrue(low * unit <= least < (low + 1) * unit)
                self.assertTrue((high - 1) * unit < most <= high * unit)
                for _ in range(4):
                    resistances = [source.randint(*row[1]) for row in segments]
                    capacitances = [source.randint(*row[2]) for row in segments]
                    delay = tree.delay(node, resistances, capacitances)
                    self.assertTrue(low * unit <= delay <= high * unit)


class Errors(unittest.TestCase):
    def test_parents(self):
        for parents in ((1,), (-1,), (0, 2), (0, -1), (0, 1, 3), (0, 0, 0, 9), (2, 0)):
            self.assertRaises(BadArgument, tree_of, parents)

    def test_ranges(self):
        for pair in ((-1, 3), (4, 3), (-5, -4), (1, 0), (-10 ** 5000, 10 ** 5000)):
            self.assertRaises(BadRange, WireTree, [(0, pair, (1, 1))])
            self.assertRaises(BadRange, WireTree, [(0, (1, 1), pair)])
            self.assertRaises(BadRange, WireTree, [(0, (1, 1), (1, 1)), (1, (1, 1), pair)])
        self.assertEqual(len(WireTree([(0, (0, 0), (0, 0))])), 2)

    def test_a_wrong_parent_comes_first(self):
        self.assertRaises(BadArgument, WireTree, [(0, (4, 3), (1, 1)), (2, (1, 1), (1, 1))])
        self.assertRaises(BadArgument, WireTree, [(1, (4, 3), (1, -1))])

    def test_nodes(self):
        for parents in SHAPES:
            tree = tree_of(parents)
            for node in (-1, len(tree), len(tree) + 5, -len(tree)):
                self.assertRaises(BadArgument, tree.parent, node)
                self.assertRaises(BadArgument, tree.path, node)
                self.assertRaises(BadArgument, tree.below, node)
                self.assertRaises(BadArgument, tree.delay, node, [1] * len(parents), [1] * len(parents))
                self.assertRaises(BadArgument, tree.delay_range, node)
                self.assertRaises(BadArgument, tree.delay_range, node, unit=0)
                # The node is looked at before the lists.
                self.assertRaises(BadArgument, tree.delay, node, [1] * 20, [])

    def test_lists_of_a_wrong_length(self):
        tree = tree_of((0, 1))
        for lists in (([1], [1, 1]), ([1, 1], [1]), ([1, 1, 1], [1, 1]), ([1, 1], [1, 1, 1]), ([], []),
                      ([1, 1, 1], [1])):
            for node in range(3):
                self.assertRaises(WrongCount, tree.delay, node, *lists)
        self.assertRaises(WrongCount, tree_of(()).delay, 0, [1], [])

    def test_units(self):
        for unit in (0, -1, -10 ** 30):
            for node in range(3):
                self.assertRaises(BadArgument, tree_of((0, 0)).delay_range, node, unit=unit)

    def test_the_unit_is_a_keyword(self):
        self.assertRaises(TypeError, tree_of((0,)).delay_range, 0, 1)


if __name__ == "__main__":
    unittest.main()
