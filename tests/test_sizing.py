"""Points 12.1 to 12.3."""

import copy
import itertools
import random
import unittest

from signoff.arrivals import Arrivals
from signoff.errors import BadArgument, BadRange, UnknownName, WrongCount
from signoff.sizing import cheapest, sized, total_cost
from tests.helpers import few_calls
from tests.makers import BOTH, BUFFER, EXOR, INVERTER, nets_of, random_circuit, random_range, reg, source_names

CIRCUIT = (
    ("a", "b"),
    (("h", BOTH, ("g", "b"), ((1, 4), (2, 4))), ("g", INVERTER, ("a",), ((1, 3),)), ("one", (True,), (), ())),
    (reg("q", "h"),),
    (("y", "h"),),
)
STARTS = [(0, 1), (0, 0), (2, 2)]
SIZES = [
    [(3, ((1, 4), (2, 4))), (5, ((0, 2), (0, 3))), (3, ((1, 4), (1, 5)))],
    [(2, ((1, 3),)), (9, ((0, 2),))],
    [(1, ()), (0, ())],
]


def meets(circuit, starts, limits):
    arrivals = Arrivals(circuit, starts)
    return all(arrivals.late(net) is None or arrivals.late(net) <= limit for net, limit in limits.items())


def plain_cheapest(circuit, starts, limits, sizes):
    """Tries all choices in ascending order."""
    best = None
    for choice in itertools.product(*[range(len(rows)) for rows in sizes]):
        cost = sum(rows[k][0] for rows, k in zip(sizes, choice))
        if best is None or cost < best[0]:
            ranges = [rows[k][1] for rows, k in zip(sizes, choice)]
            made = (circuit[0], tuple((*gate[:3], row) for gate, row in zip(circuit[1], ranges)), *circuit[2:])
            if meets(made, starts, limits):
                best = (cost, list(choice))
    return best


def random_sizes(source, circuit, most=3, costs=6):
    found = []
    for _, _, nets, ranges in circuit[1]:
        rows = []
        for _ in range(source.randrange(1, most + 1)):
            drawn = tuple(random_range(source, 3, 5) for _ in nets)
            rows.append((source.randrange(costs), source.choice((drawn, ranges, rows[0][1] if rows else drawn))))
        found.append(rows)
    return found


def random_case(source, **sizes):
    circuit = random_circuit(source, **{"inputs": 2, "regs": 1, "gates": 5, "low": 3, "spread": 5, **sizes})
    starts = [(early, early + source.randrange(3)) for early in (source.randrange(-2,
                                                                                  3) for _ in source_names(circuit))]
    nets = nets_of(circuit)
    limits = {net: source.randrange(3, 22) for net in source.sample(nets, source.randrange(min(4, len(nets) + 1)))}
    return circuit, starts, limits


class Sized(unittest.TestCase):
    def test_by_hand(self):
        self.assertEqual(sized(CIRCUIT, SIZES, [1, 0, 1]), (
            ("a", "b"), (("h", BOTH, ("g", "b"), ((0, 2), (0, 3))), CIRCUIT[1][1], CIRCUIT[1][2]), *CIRCUIT[2:]))
        self.assertEqual(sized(CIRCUIT, SIZES, [0, 0, 0]), CIRCUIT)
        self.assertEqual(sized(((), (), (), ()), [], []), ((), (), (), ()))
        self.assertIs(type(sized(CIRCUIT, SIZES, [2, 1, 0])[1][0][3]), tuple)

    def test_total_cost(self):
        self.assertEqual([total_cost(SIZES, choice) for choice in ([0, 0, 0], [1, 1, 1], [2, 0, 1])], [6, 14, 5])
        self.assertEqual(total_cost([], []), 0)
        self.assertEqual(total_cost([[(10 ** 40, ())], [(0, ()), (1, ())]], [0, 1]), 10 ** 40 + 1)

    def test_random_circuits(self):
        source = random.Random(1)
        for _ in range(100):
            circuit, _, _ = random_case(source)
            sizes = random_sizes(source, circuit)
            choice = [source.randrange(len(rows)) for rows in sizes]
            found = sized(circuit, sizes, choice)
            self.assertEqual([gate[:3] for gate in found[1]], [gate[:3] for gate in circuit[1]])
            self.assertEqual([gate[3] for gate in found[1]], [rows[k][1] for rows, k in zip(sizes, choice)])
            self.assertEqual((found[0], *found[2:]), (circuit[0], *circuit[2:]))
            self.assertEqual(total_cost(sizes, choice), sum(rows[k][0] for rows, k in zip(sizes, choice)))


class Cheapest(unittest.TestCase):
    def test_by_hand(self):
        # g is late at 1 + 3 or 1 + 2, h at that + 4 or + 2, or 4 or 3 behind b.
        for limits, wanted in (({}, (5, [0, 0, 1])), ({"h": 8}, (5, [0, 0, 1])), ({"h": 7}, (7, [1, 0, 1])),
                               ({"h": 6}, (7, [1, 0, 1])), ({"h": 5}, (14, [1, 1, 1])), ({"h": 4}, None),
                               ({"g": 3}, (12, [0, 1, 1])), ({"g": 2}, None), ({"a": 1}, (5, [0, 0, 1])),
                               ({"a": 0}, None),
                               ({"q": 1}, None), ({"one": -99}, (5, [0, 0, 1])), ({"h": 6, "g": 3}, (14, [1, 1, 1]))):
            self.assertEqual(cheapest(CIRCUIT, STARTS, limits, SIZES), wanted, limits)

    def test_kinds(self):
        found = cheapest(CIRCUIT, STARTS, {}, SIZES)
        self.assertEqual([type(part) for part in found], [tuple, int, list][1:])
        self.assertIs(type(found), tuple)

    def test_all_choices(self):
        source = random.Random(2)
        counts = [0, 0]
        for _ in range(600):
            circuit, starts, limits = random_case(source)
            sizes = random_sizes(source, circuit)
            wanted = plain_cheapest(circuit, starts, limits, sizes)
            self.assertEqual(cheapest(circuit, starts, limits, sizes), wanted)
            counts[wanted is None] += 1
        self.assertGreater(min(counts), 60)

    def test_equal_costs(self):
        source = random.Random(3)
        for costs in (1, 2):
            for _ in range(200):
                circuit, starts, limits = random_case(source, gates=6, pins=2)
                sizes = random_sizes(source, circuit, most=4, costs=costs)
                self.assertEqual(cheapest(circuit, starts, limits, sizes),
                                 plain_cheapest(circuit, starts, limits, sizes))

    def test_tight_limits(self):
        # The limit is what some choice reaches, or 1 less.
        source = random.Random(4)
        for _ in range(200):
            circuit, starts, _ = random_case(source)
            sizes = random_sizes(source, circuit, costs=20)
            made = sized(circuit, sizes, [source.randrange(len(rows)) for rows in sizes])
            arrivals = Arrivals(made, starts)
            limits = {net: arrivals.late(net) - source.randrange(2) for net in source.sample(nets_of(circuit), 3)
                      if arrivals.late(net) is not None}
            self.assertEqual(cheapest(circuit, starts, limits, sizes), plain_cheapest(circuit, starts, limits, sizes))

    def test_no_gates(self):
        circuit = (("a",), (), (), ())
        self.assertEqual(cheapest(circuit, [(0, 3)], {"a": 3}, []), (0, []))
        self.assertIsNone(cheapest(circuit, [(0, 3)], {"a": 2}, []))

    def chain(self, many):
        return (("a",), tuple((f"g{k}", BUFFER, (f"g{k - 1}" if k else "a",), ((1, 9),)) for k in range(many)), (), ())

    def test_most_gates_have_the_same_ranges_in_all_sizes(self):
        source = random.Random(5)
        for _ in range(20):
            circuit = random_circuit(source, inputs=3, regs=1, gates=12, pins=3)
            several = source.sample(range(12), 3)
            sizes = []
            for g, gate in enumerate(circuit[1]):
                sizes.append([(source.randrange(9),
                               tuple(random_range(source) for _ in gate[2]) if g in several else gate[3])
                              for _ in range(4)])
            starts = [(0, 0)] * 4
            limits = {gate[0]: source.randrange(4, 30) for gate in circuit[1][:3]}
            # Of sizes with equal ranges only the cheapest one matters, and of these the first one.
            few = [rows if g in several else [min(rows)] for g, rows in enumerate(sizes)]
            wanted = plain_cheapest(circuit, starts, limits, few)
            if wanted is not None:
                wanted = (wanted[0], [k if g in several else sizes[g].index(min(sizes[g])) for g,
                                      k in enumerate(wanted[1])])
            self.assertEqual(cheapest(circuit, starts, limits, sizes), wanted)

    def test_a_chain_of_twelve(self):
        # Each step down costs more than the one before; all gates are alike.
        sizes = [[(0, ((1, 9),)), (2, ((1, 7),)), (5, ((1, 5),)), (9, ((1, 3),))] for _ in range(12)]
        circuit = self.chain(12)
        self.assertEqual(cheapest(circuit, [(0, 0)], {"g11": 36}, sizes), (108, [3] * 12))
        self.assertIsNone(cheapest(circuit, [(0, 0)], {"g11": 35}, sizes))
        self.assertEqual(cheapest(circuit, [(0, 0)], {"g11": 108}, sizes), (0, [0] * 12))
        self.assertEqual(cheapest(circuit, [(0, 0)], {"g11": 102}, sizes), (6, [0] * 9 + [1] * 3))

    def test_many_gates(self):
        # Limits that belong to one gate each exclude sizes for each gate alone.
        circuit = (("a",), tuple((f"g{k}", BUFFER, ("a",), ((1, 9),)) for k in range(400)), (), ())
        sizes = [[(0, ((1, 9),)), (k, ((1, 7),)), (k + 1, ((1, 5),)), (k + 2, ((1, 3),))] for k in range(400)]
        with few_calls():
            found = cheapest(circuit, [(0, 0)], {f"g{k}": 5 + k % 2 * 2 for k in range(400)}, sizes)
        self.assertEqual(found, (sum(k if k % 2 else k + 1 for k in range(400)), [2 - k % 2 for k in range(400)]))
        # Without limits for most of them there is nothing to choose.
        with few_calls():
            found = cheapest(circuit, [(0, 0)], {"g3": 5}, sizes)
        self.assertEqual(found, (4, [2 if k == 3 else 0 for k in range(400)]))


class Errors(unittest.TestCase):
    LIMITS = {"h": 9}

    def both(self, error, sizes, choice=(0, 0, 0)):
        self.assertRaises(error, sized, CIRCUIT, sizes, list(choice))
        self.assertRaises(error, cheapest, CIRCUIT, STARTS, self.LIMITS, sizes)

    def changed(self, g, rows):
        return SIZES[:g] + [rows] + SIZES[g + 1:]

    def test_wrong_counts(self):
        for sizes in ([], SIZES[:2], SIZES + [[(1, ())]], self.changed(0, []), self.changed(2, []),
                      self.changed(1, [(2, ())]), self.changed(1, [(2, ((1, 3), (1, 3)))]),
                      self.changed(1, SIZES[1] + [(2, ())]), self.changed(2, [(1, ()), (0, ((1, 3),))])):
            self.both(WrongCount, sizes)
        for choice in ([], [0, 0], [0, 0, 0, 0]):
            self.assertRaises(WrongCount, sized, CIRCUIT, SIZES, choice)

    def test_costs_and_indexes(self):
        for g, rows in ((0, [(-1, SIZES[0][0][1])]), (1, SIZES[1] + [(-5, ((1, 3),))]),
                        (2, [(0, ()), (-10 ** 30, ())])):
            self.both(BadArgument, self.changed(g, rows))
            self.assertRaises(BadArgument, total_cost, self.changed(g, rows), [0, 0, 0])
        for choice in ([3, 0, 0], [0, 2, 0], [0, 0, -1], [-1, 0, 0], [10 ** 30, 0, 0]):
            self.assertRaises(BadArgument, sized, CIRCUIT, SIZES, choice)

    def test_ranges(self):
        for low, high in ((-1, 3), (1, 2), (3, 3), (4, 1), (-5, -1)):
            self.both(BadRange, self.changed(1, [(2, ((low, high),))]))
            # Also of a size that was not chosen, or that never would be.
            self.both(BadRange, self.changed(1, [(2, ((1, 3),)), (99, ((low, high),))]))
            self.both(BadRange, self.changed(0, SIZES[0] + [(99, ((0, 2), (low, high)))]))
        self.assertEqual(sized(CIRCUIT, self.changed(1, [(2, ((0, 2),))]), [0, 0, 0])[1][1][3], ((0, 2),))

    def test_limits_and_starts(self):
        for name in ("x", "", "y"):
            self.assertRaises(UnknownName, cheapest, CIRCUIT, STARTS, {"h": 9, name: 3}, SIZES)
        for starts in ([], STARTS[:2], STARTS + [(0, 0)]):
            self.assertRaises(WrongCount, cheapest, CIRCUIT, starts, self.LIMITS, SIZES)
        self.assertRaises(BadRange, cheapest, CIRCUIT, [(0, 0), (1, 0), (0, 0)], self.LIMITS, SIZES)

    def test_which_error_comes_first(self):
        counts = [(2, ((1, 3), (1, 3)))]
        ranges = [(2, ((1, 2),))]
        costs = [(-2, ((1, 2),))]
        self.assertRaises(WrongCount, sized, CIRCUIT, [costs and SIZES[0][:1], costs, []], [9, 9, 9])
        self.assertRaises(WrongCount, sized, CIRCUIT, self.changed(1, costs), [9, 9])
        self.assertRaises(WrongCount, sized, CIRCUIT, self.changed(1, counts), [9, 9, 9])
        self.assertRaises(BadArgument, sized, CIRCUIT, self.changed(1, costs), [0, 0, 0])
        self.assertRaises(BadArgument, sized, CIRCUIT, self.changed(1, ranges), [0, 1, 0])
        self.assertRaises(BadArgument, sized, CIRCUIT, [[(1, ((1, 2), (1, 3)))], [(-1, ((1, 3),))], SIZES[2]],
                          [0, 0, 0])
        self.assertRaises(BadRange, sized, CIRCUIT, self.changed(1, ranges), [0, 0, 0])
        bad_limits, bad_starts = {"x": 1}, [(1, 0)]
        self.assertRaises(WrongCount, cheapest, CIRCUIT, bad_starts, bad_limits, [SIZES[0], costs, []])
        self.assertRaises(BadArgument, cheapest, CIRCUIT, bad_starts, bad_limits, self.changed(1, costs))
        self.assertRaises(BadRange, cheapest, CIRCUIT, bad_starts, bad_limits, self.changed(1, ranges))
        self.assertRaises(UnknownName, cheapest, CIRCUIT, bad_starts, bad_limits, SIZES)
        self.assertRaises(WrongCount, cheapest, CIRCUIT, bad_starts, {}, SIZES)
        # An error comes also where no choice meets the limits.
        self.assertRaises(BadRange, cheapest, CIRCUIT, [(0, 0), (1, 0), (0, 0)], {"h": -99}, SIZES)

    def test_arguments_stay(self):
        parts = copy.deepcopy((CIRCUIT, STARTS, self.LIMITS, SIZES))
        found = cheapest(*parts)
        found[1].clear()
        sized(parts[0], parts[3], [1, 1, 1])
        total_cost(parts[3], [0, 0, 0])
        self.assertEqual(parts, (CIRCUIT, STARTS, self.LIMITS, SIZES))
        self.assertEqual(cheapest(*parts), (5, [0, 0, 1]))


if __name__ == "__main__":
    unittest.main()
