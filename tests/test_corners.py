"""Points 4.2 to 4.4."""

import copy
import itertools
import random
import unittest

from signoff.circuits import check_circuit
from signoff.corners import derated, loaded, merged, within
from signoff.errors import BadArgument, UnknownName
from signoff.wires import WireTree
from tests.makers import BOTH, EITHER, INVERTER, nets_of, random_circuit, random_range, reg

CIRCUIT = (
    ("a", "b", "d"),
    (("g", BOTH, ("a", "b"), ((1, 3), (2, 6))), ("h", BOTH, ("g", "g"), ((0, 2), (4, 9))), ("k", (True,), (), ()),
     ("n", INVERTER, ("q",), ((5, 7),))),
    (reg("q", "h"), reg("p", "h")),
    (("y", "h"), ("z", "a")),
)
TREE = WireTree([(0, (1, 2), (1, 1)), (1, (3, 3), (2, 4)), (0, (1, 9), (3, 3))])


def ranges(circuit):
    return [gate[3] for gate in circuit[1]]


def with_ranges(circuit, rows):
    gates = tuple((name, table, nets, tuple(row)) for (name, table, nets, _), row in zip(circuit[1], rows))
    return (circuit[0], gates, circuit[2], circuit[3])


def random_ranges(source, circuit):
    return with_ranges(circuit, [[random_range(source) for _ in gate[3]] for gate in circuit[1]])


class Loaded(unittest.TestCase):
    def test_some_pins(self):
        self.assertEqual([TREE.delay_range(node) for node in range(4)], [(0, 0), (3, 10), (9, 22), (3, 27)])
        found = loaded(CIRCUIT, {"g": (TREE, {(1, 1): 2}), "q": (TREE, {(3, 0): 1}), "a": (TREE, {(0, 0): 3})})
        self.assertEqual(ranges(found), [((4, 30), (2, 6)), ((0, 2), (13, 31)), (), ((8, 17),)])
        self.assertEqual(found, with_ranges(CIRCUIT, ranges(found)))
        check_circuit(found)

    def test_all_pins_of_a_net_and_the_unit(self):
        found = loaded(CIRCUIT, {"g": (TREE, {(1, 0): 0, (1, 1): 3})}, unit=5)
        self.assertEqual(ranges(found), [((1, 3), (2, 6)), ((0, 2), (4, 15)), (), ((5, 7),)])
        found = loaded(CIRCUIT, {"g": (TREE, {(1, 0): 2, (1, 1): 2})}, unit=4)
        self.assertEqual(ranges(found)[1], ((2, 8), (6, 15)))

    def test_nothing_to_add(self):
        for wires in ({}, {"a": (TREE, {})}, {"k": (TREE, {}), "h": (WireTree([]), {})},
                      {"g": (WireTree([]), {(1, 0): 0})}):
            self.assertEqual(loaded(CIRCUIT, wires), CIRCUIT)
            self.assertEqual(loaded(CIRCUIT, wires, unit=7), CIRCUIT)

    def test_unknown_names(self):
        for name in ("x", "y", "z", ""):
            self.assertRaises(UnknownName, loaded, CIRCUIT, {name: (TREE, {})})
            self.assertRaises(UnknownName, loaded, CIRCUIT, {"a": (TREE, {(0, 1): 9}), name: (TREE, {})}, unit=0)

    def test_pins_that_are_not_connected(self):
        for net, pin in (("a", (0, 1)), ("a", (1, 0)), ("b", (0, 0)), ("a", (0, 2)), ("b", (0, -1)), ("a", (0, -2)),
                         ("q", (-1, 0)), ("a", (-4, 0)), ("q", (4, 0)), ("q", (3, 1)), ("k", (2, 0)), ("h", (1, 0)),
                         ("g", (0, 0)), ("n", (3, 0))):
            self.assertRaises(BadArgument, loaded, CIRCUIT, {net: (TREE, {pin: 1})})

    def test_nodes_that_do_not_exist(self):
        for node in (-1, 4, 100, -4):
            self.assertRaises(BadArgument, loaded, CIRCUIT, {"a": (TREE, {(0, 0): node})})
        self.assertRaises(BadArgument, loaded, CIRCUIT, {"a": (WireTree([]), {(0, 0): 1})})

    def test_units(self):
        for unit in (0, -1):
            for wires in ({}, {"a": (TREE, {})}, {"a": (TREE, {(0, 0): 1})}):
                self.assertRaises(BadArgument, loaded, CIRCUIT, wires, unit=unit)

    def test_random_circuits(self):
        source = random.Random(1)
        for _ in range(60):
            circuit = random_circuit(source, gates=5)
            wires = {}
            wanted = [list(gate[3]) for gate in circuit[1]]
            unit = source.randrange(1, 5)
            for net in nets_of(circuit):
                taps = {}
                for g, gate in enumerate(circuit[1]):
                    for pin, other in enumerate(gate[2]):
                        if other == net and source.random() < 0.7:
                            node = taps[g, pin] = source.randrange(len(TREE))
                            low, high = TREE.delay_range(node, unit=unit)
                            wanted[g][pin] = (gate[3][pin][0] + low, gate[3][pin][1] + high)
                if source.random() < 0.7:
                    wires[net] = (TREE, taps)
                else:
                    for g, pin in taps:
                        wanted[g][pin] = circuit[1][g][3][pin]
            kept = copy.deepcopy((circuit, {net: dict(taps) for net, (_, taps) in wires.items()}))
            self.assertEqual(loaded(circuit, wires, unit=unit), with_ranges(circuit, wanted))
            self.assertEqual((circuit, {net: taps for net, (_, taps) in wires.items()}), kept)
            check_circuit(loaded(circuit, wires, unit=unit))


class Derated(unittest.TestCase):
    def test_rounding(self):
        found = derated(CIRCUIT, (1, 2), (3, 2))
        self.assertEqual(ranges(found), [((0, 5), (1, 9)), ((0, 3), (2, 14)), (), ((2, 11),)])
        self.assertEqual(found, with_ranges(CIRCUIT, ranges(found)))
        found = derated(CIRCUIT, (9, 10), (11, 10))
        self.assertEqual(ranges(found), [((0, 4), (1, 7)), ((0, 3), (3, 10)), (), ((4, 8),)])

    def test_ratios_of_0_and_1(self):
        self.assertEqual(derated(CIRCUIT, (1, 1), (1, 1)), CIRCUIT)
        self.assertEqual(derated(CIRCUIT, (7, 7), (5, 5)), CIRCUIT)
        self.assertEqual(ranges(derated(CIRCUIT, (0, 3), (2, 1))),
                         [((0, 6), (0, 12)), ((0, 4), (0, 18)), (), ((0, 14),)])

    def test_large_numbers(self):
        big = 10 ** 50
        circuit = (("a",), (("g", INVERTER, ("a",), ((big + 1, 3 * big + 1),)),), (), ())
        self.assertEqual(ranges(derated(circuit, (big - 1, big), (big + 1, big))),
                         [((big - 1, 3 * big + 5),)])
        self.assertEqual(ranges(derated(circuit, (1, 10 ** 60), (10 ** 60, 1))), [((0, (3 * big + 1) * 10 ** 60),)])

    def test_wrong_ratios(self):
        good = (1, 1)
        for ratio in ((1, 0), (0, 0), (1, -1), (-1, -1), (0, -5), (-1, -2)):
            self.assertRaises(BadArgument, derated, CIRCUIT, ratio, good)
            self.assertRaises(BadArgument, derated, CIRCUIT, good, ratio)
        for early in ((-1, 2), (3, 2), (2, 1), (10 ** 40 + 1, 10 ** 40)):
            self.assertRaises(BadArgument, derated, CIRCUIT, early, good)
        for late in ((1, 2), (0, 1), (-3, 1), (10 ** 40 - 1, 10 ** 40)):
            self.assertRaises(BadArgument, derated, CIRCUIT, good, late)
            self.assertRaises(BadArgument, derated, ((), (), (), ()), good, late)

    def test_random_circuits(self):
        source = random.Random(2)
        for _ in range(60):
            circuit = random_circuit(source, low=30, spread=30)
            kept = copy.deepcopy(circuit)
            bottom = source.randrange(1, 9)
            early = (source.randrange(bottom + 1), bottom)
            late = (bottom + source.randrange(9), bottom)
            found = derated(circuit, early, late)
            check_circuit(found)
            self.assertTrue(within(circuit, found))
            for pair, wider in zip(itertools.chain(*ranges(circuit)), itertools.chain(*ranges(found))):
                self.assertEqual(wider[0], max(k for k in range(99) if k * bottom <= pair[0] * early[0]))
                self.assertEqual(wider[1], min(k for k in range(999) if k * bottom >= pair[1] * late[0]))
            self.assertEqual(circuit, kept)


# Circuits that differ from CIRCUIT in one thing that is no range.
Q = CIRCUIT[2][:1]
OTHERS = (
    (("a", "b", "e"), *CIRCUIT[1:]),
    (("b", "a", "d"), *CIRCUIT[1:]),
    (("a", "b"), *CIRCUIT[1:]),
    (("a", "b", "d", "e"), *CIRCUIT[1:]),
    (CIRCUIT[0], CIRCUIT[1][:3], *CIRCUIT[2:]),
    (CIRCUIT[0], CIRCUIT[1] + (("m", (True,), (), ()),), *CIRCUIT[2:]),
    (CIRCUIT[0], CIRCUIT[1][::-1], *CIRCUIT[2:]),
    (CIRCUIT[0], CIRCUIT[1][:3] + (("f",) + CIRCUIT[1][3][1:],), *CIRCUIT[2:]),
    (CIRCUIT[0], (("g", EITHER) + CIRCUIT[1][0][2:],) + CIRCUIT[1][1:], *CIRCUIT[2:]),
    (CIRCUIT[0], (("g", BOTH, ("b", "a"), CIRCUIT[1][0][3]),) + CIRCUIT[1][1:], *CIRCUIT[2:]),
    (CIRCUIT[0], CIRCUIT[1][:2] + (("k", (False,), (), ()),) + CIRCUIT[1][3:], *CIRCUIT[2:]),
    (CIRCUIT[0], CIRCUIT[1], Q, CIRCUIT[3]),
    (CIRCUIT[0], CIRCUIT[1], CIRCUIT[2][::-1], CIRCUIT[3]),
    (CIRCUIT[0], CIRCUIT[1], Q + (reg("s", "h"),), CIRCUIT[3]),
    (CIRCUIT[0], CIRCUIT[1], Q + (reg("p", "g"),), CIRCUIT[3]),
    (CIRCUIT[0], CIRCUIT[1], Q + (reg("p", "h", edge=(0, 2)),), CIRCUIT[3]),
    (CIRCUIT[0], CIRCUIT[1], Q + (reg("p", "h", out=(0, 2)),), CIRCUIT[3]),
    (CIRCUIT[0], CIRCUIT[1], Q + (reg("p", "h", setup=1),), CIRCUIT[3]),
    (CIRCUIT[0], CIRCUIT[1], Q + (reg("p", "h", hold=1),), CIRCUIT[3]),
    (CIRCUIT[0], CIRCUIT[1], Q + (reg("p", "h", start=True),), CIRCUIT[3]),
    (CIRCUIT[0], CIRCUIT[1], CIRCUIT[2] + (reg("s", "h"),), CIRCUIT[3]),
    (*CIRCUIT[:3], ()),
    (*CIRCUIT[:3], CIRCUIT[3][::-1]),
    (*CIRCUIT[:3], (("y", "g"), ("z", "a"))),
    (*CIRCUIT[:3], (("y", "h"), ("x", "a"))),
)


class Merged(unittest.TestCase):
    def test_one_circuit(self):
        for circuit in (CIRCUIT, ((), (), (), ()), (("a",), (), (), ())):
            self.assertEqual(merged([circuit]), circuit)
            self.assertEqual(merged([circuit, circuit, circuit]), circuit)

    def test_two_and_three(self):
        second = with_ranges(CIRCUIT, [((0, 2), (3, 5)), ((1, 3), (3, 9)), (), ((9, 11),)])
        third = with_ranges(CIRCUIT, [((2, 5), (2, 4)), ((0, 2), (9, 99)), (), ((5, 8),)])
        self.assertEqual(ranges(merged([CIRCUIT, second])), [((0, 3), (2, 6)), ((0, 3), (3, 9)), (), ((5, 11),)])
        self.assertEqual(ranges(merged([CIRCUIT, second, third])),
                         [((0, 5), (2, 6)), ((0, 3), (3, 99)), (), ((5, 11),)])

    def test_wrong_lists(self):
        self.assertRaises(BadArgument, merged, [])
        for other in OTHERS:
            check_circuit(other)
            for circuits in ([CIRCUIT, other], [other, CIRCUIT], [CIRCUIT, CIRCUIT, other],
                             [CIRCUIT, other, CIRCUIT], [other, other, CIRCUIT]):
                self.assertRaises(BadArgument, merged, circuits)

    def test_random_circuits(self):
        source = random.Random(3)
        for _ in range(60):
            plain = random_circuit(source, gates=4)
            circuits = [random_ranges(source, plain) for _ in range(source.randrange(1, 5))]
            kept = copy.deepcopy(circuits)
            found = merged(circuits)
            self.assertEqual(circuits, kept)
            check_circuit(found)
            self.assertEqual(with_ranges(found, ranges(plain)), plain)
            for g, gate in enumerate(found[1]):
                for pin, pair in enumerate(gate[3]):
                    pairs = [circuit[1][g][3][pin] for circuit in circuits]
                    self.assertEqual(pair, (min(low for low, _ in pairs), max(high for _, high in pairs)))
            self.assertTrue(all(within(circuit, found) for circuit in circuits))
            for _ in range(5):
                other = derated(random_ranges(source, plain), (1, 3), (3, 1))
                self.assertEqual(within(found, other), all(within(circuit, other) for circuit in circuits))


class Within(unittest.TestCase):
    def test_both_directions(self):
        self.assertIs(within(CIRCUIT, CIRCUIT), True)
        for at, (low, high) in enumerate(((1, 3), (2, 6))):
            for pair, inside, outside in (((low - 1, high), True, False), ((low, high + 1), True, False),
                                          ((low + 1, high + 1), False, False), ((low - 1, high - 1), False, False),
                                          ((low - 1, high + 1), True, False), ((low, high - 1), False, True)):
                pairs = list(ranges(CIRCUIT)[0])
                pairs[at] = pair
                other = with_ranges(CIRCUIT, [pairs] + ranges(CIRCUIT)[1:])
                self.assertIs(within(CIRCUIT, other), inside, pair)
                self.assertIs(within(other, CIRCUIT), outside, pair)

    def test_one_wider_and_one_narrower_pin(self):
        other = with_ranges(CIRCUIT, [((0, 4), (3, 5))] + ranges(CIRCUIT)[1:])
        self.assertIs(within(CIRCUIT, other), False)
        self.assertIs(within(other, CIRCUIT), False)

    def test_not_alike(self):
        for other in OTHERS:
            self.assertIs(within(CIRCUIT, other), False)
            self.assertIs(within(other, CIRCUIT), False)
        self.assertIs(within(((), (), (), ()), ((), (), (), ())), True)


if __name__ == "__main__":
    unittest.main()
