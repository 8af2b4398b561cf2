"""Points 3.1 to 3.3 and 3.6."""

import copy
import itertools
import random
import unittest

from signoff.circuits import check_circuit, cone, gate_order, readers, sources
from signoff.errors import BadRange, Looped, NameClash, TooDeep, UnknownName, WrongCount
from tests.helpers import few_calls

BUFFER = (False, True)
RANGE = (1, 3)


def gate(name, *nets):
    """A gate that is True if all of its nets are."""
    return (name, (False,) * (2 ** len(nets) - 1) + (True,), nets, (RANGE,) * len(nets))


def reg(name, net, edge=(0, 1), out=(1, 2), setup=0, hold=0, start=False):
    return (name, net, edge, out, setup, hold, start)


def path(many, first="a", prefix="p"):
    """The gates of a path, of which the first reads a net."""
    names = [f"{prefix}{k}" for k in range(many)]
    return [gate(name, net) for name, net in zip(names, [first] + names)]


SOUND = (
    ("a", "b"),
    (gate("g", "a", "q"), gate("h", "g", "g", "b"), gate("one")),
    (reg("q", "h"), reg("r", "a")),
    (("y", "h"), ("z", "a"), ("a", "q")),
)


def extended(circuit, inputs=(), gates=(), regs=(), outputs=()):
    return (circuit[0] + tuple(inputs), circuit[1] + tuple(gates), circuit[2] + tuple(regs),
            circuit[3] + tuple(outputs))


# For each rule, in order, several ways to break it alone. The names are all different, so that
# any two ways can be combined.
BROKEN = (
    (NameClash, [
        {"inputs": ["a"]},
        {"inputs": ["g"]},
        {"inputs": ["q"]},
        {"gates": [gate("g", "a")]},
        {"gates": [gate("r", "a")]},
        {"regs": [reg("r", "b")]},
        {"outputs": [("y", "b")]},
        {"inputs": ["c1", "c1"]},
    ]),
    (WrongCount, [
        {"gates": [gate("w1", "a", "b", "a", "b", "a", "b", "a")]},
        {"gates": [("w2", BUFFER, ("a",), ())]},
        {"gates": [("w3", BUFFER, ("a",), (RANGE, RANGE))]},
        {"gates": [("w4", (True,), ("a",), (RANGE,))]},
        {"gates": [("w5", (True,) * 4, ("a",), (RANGE,))]},
        {"gates": [("w6", BUFFER, (), ())]},
        {"gates": [("w7", BUFFER, (), (RANGE,))]},
        {"gates": [("w8", (True,) * 64, ("a",) * 7, (RANGE,) * 6)]},
    ]),
    (UnknownName, [
        {"gates": [gate("u1", "nowhere")]},
        {"gates": [gate("u2", "a", "b", "y")]},
        {"regs": [reg("u3", "nowhere")]},
        {"outputs": [("u4", "nowhere")]},
        {"outputs": [("u5", "u4"), ("u6", "u5")]},
    ]),
    (BadRange, [
        {"gates": [("b1", BUFFER, ("a",), ((-1, 3),))]},
        {"gates": [("b2", BUFFER, ("a",), ((1, 2),))]},
        {"gates": [("b3", (True,) * 4, ("a", "b"), (RANGE, (5, 5)))]},
        {"gates": [("b4", BUFFER, ("a",), ((9, 4),))]},
        {"regs": [reg("b5", "a", edge=(-1, 0))]},
        {"regs": [reg("b6", "a", edge=(2, 1))]},
        {"regs": [reg("b7", "a", out=(-1, 4))]},
        {"regs": [reg("b8", "a", out=(4, 3))]},
        {"regs": [reg("b9", "a", setup=-1)]},
        {"regs": [reg("b10", "a", hold=-1)]},
        {"regs": [reg("b11", "a", out=(1, 5), hold=5)]},
        {"regs": [reg("b12", "a", out=(0, 0), hold=0)]},
    ]),
    (Looped, [
        {"gates": [gate("l1", "l1")]},
        {"gates": [gate("l2", "a", "l3"), gate("l3", "l2")]},
        {"gates": [gate("l4", "l6"), gate("l5", "b", "l4"), gate("l6", "l5", "g"), gate("l7", "l4")]},
    ]),
    (TooDeep, [
        {"gates": path(101, prefix="d")},
        {"gates": path(150, first="g", prefix="e")[::-1]},
        {"gates": path(100, first="h", prefix="f")},
    ]),
)


class Checking(unittest.TestCase):
    def test_sound_circuits(self):
        for circuit in (
                ((), (), (), ()),
                (("a",), (), (), ()),
                ((), (), (reg("q", "q"),), (("q", "q"),)),
                (("a",), (gate("g", "a", "a", "a", "a", "a", "a"),), (), (("x", "a"), ("y", "a"))),
                (("a",), (("g", BUFFER, ("a",), ((0, 2),)),), (), (("g", "g"), ("a", "g"))),
                (("a",), (("g", BUFFER, ("a",), ((10 ** 40, 10 ** 40 + 2),)),), (), ()),
                (("a",), (), (reg("q", "a", (0, 0), (0, 1), 0, 0), reg("r", "q", (7, 9), (5, 5), 99, 4)), ()),
                ((), (gate("n", "q"),), (reg("q", "n"),), ()),
                SOUND):
            self.assertIsNone(check_circuit(circuit))

    def test_each_rule_alone(self):
        for error, ways in BROKEN:
            for way in ways:
                with self.subTest(way):
                    with self.assertRaises(error) as caught:
                        check_circuit(extended(SOUND, **way))
                    self.assertIs(type(caught.exception), error)

    def test_each_pair_of_rules(self):
        for (error, ways), (_, later) in itertools.combinations(BROKEN, 2):
            for first, second in itertools.product(ways, later):
                for circuit in (extended(extended(SOUND, **first), **second),
                                extended(extended(SOUND, **second), **first)):
                    with self.assertRaises(error) as caught:
                        check_circuit(circuit)
                    self.assertIs(type(caught.exception), error, (first, second))

    def test_all_rules_at_once(self):
        for at, (error, _) in enumerate(BROKEN):
            circuit = SOUND
            for _, ways in BROKEN[at:][::-1]:
                circuit = extended(circuit, **ways[-1])
            self.assertRaises(error, check_circuit, circuit)

    def test_many_pins(self):
        for many in range(7):
            check_circuit((("a",), (gate("g", *["a"] * many),), (), ()))
        for many in (7, 8, 10):
            self.assertRaises(WrongCount, check_circuit, (("a",), (gate("g", *["a"] * many),), (), ()))
        many = 10 ** 6
        self.assertRaises(WrongCount, check_circuit,
                          (("a",), (("g", (True,), ("a",) * many, (RANGE,) * many),), (), ()))

    def test_ports_are_no_nets(self):
        self.assertRaises(UnknownName, check_circuit, (("a",), (gate("g", "y"),), (), (("y", "a"),)))

    def test_the_circuit_is_not_changed(self):
        before = copy.deepcopy(SOUND)
        check_circuit(SOUND)
        self.assertEqual(SOUND, before)


class Cycles(unittest.TestCase):
    def cycle(self, gates, inputs=("a",), regs=()):
        with self.assertRaises(Looped) as caught:
            check_circuit((inputs, tuple(gates), tuple(regs), ()))
        return caught.exception.names

    def check(self, gates, names):
        nets = {one[0]: one[2] for one in gates}
        self.assertIs(type(names), tuple)
        self.assertGreater(len(names), 0)
        self.assertEqual(len(set(names)), len(names))
        for name, following in zip(names, names[1:] + names[:1]):
            self.assertIn(following, nets[name])

    def test_one_gate(self):
        self.assertEqual(self.cycle([gate("g", "g")]), ("g",))
        self.assertEqual(self.cycle([gate("f", "a"), gate("g", "a", "f", "g"), gate("h", "g")]), ("g",))

    def test_one_cycle(self):
        for many in range(2, 7):
            names = [f"g{k}" for k in range(many)]
            gates = [gate(name, "a", following) for name, following in zip(names, names[1:] + names[:1])]
            for order in itertools.islice(itertools.permutations(gates), 50):
                found = self.cycle(order)
                at = names.index(found[0])
                self.assertEqual(found, tuple(names[at:] + names[:at]))

    def test_what_leads_to_a_cycle_and_from_it_is_not_in_it(self):
        gates = [gate("p", "a"), gate("x", "p", "z"), gate("y", "x", "q"), gate("z", "y"),
                 gate("o1", "z"), gate("o2", "o1", "x")]
        for order in itertools.permutations(gates):
            found = self.cycle(order, regs=[reg("q", "o2")])
            self.assertIn(found, (("x", "z", "y"), ("z", "y", "x"), ("y", "x", "z")))

    def test_two_cycles(self):
        gates = [gate("a1", "a2"), gate("a2", "a1"), gate("b1", "b1", "a1"), gate("c", "b1")]
        for order in itertools.permutations(gates):
            self.assertIn(self.cycle(order), (("a1", "a2"), ("a2", "a1"), ("b1",)))

    def test_random_circuits(self):
        source = random.Random(4)
        looped = 0
        for _ in range(400):
            many = source.randrange(1, 9)
            names = [f"g{k}" for k in range(many)]
            nets = names + ["a", "q"]
            gates = [gate(name, *[source.choice(nets) for _ in range(source.randrange(3))]) for name in names]
            circuit = (("a",), tuple(gates), (reg("q", "g0"),), ())
            if any(self.is_order(gates, order) for order in itertools.permutations(range(many))):
                self.assertIsNone(check_circuit(circuit))
            else:
                looped += 1
                self.check(gates, self.cycle(gates, regs=circuit[2]))
        self.assertGreater(looped, 50)

    def is_order(self, gates, order):
        seen = {"a", "q"}
        for g in order:
            if not seen.issuperset(gates[g][2]):
                return False
            seen.add(gates[g][0])
        return True

    def test_paths_may_be_closed_through_registers(self):
        check_circuit(((), (gate("g", "q"), gate("h", "g", "r")), (reg("q", "h"), reg("r", "g")), ()))

    def test_a_long_cycle(self):
        gates = path(3000, first="p2999")
        with few_calls():
            found = self.cycle(gates)
        self.check(gates, found)
        self.assertEqual(len(found), 3000)


class LongPaths(unittest.TestCase):
    def test_a_path_of_100_gates_and_of_101(self):
        source = random.Random(2)
        for _ in range(10):
            gates = path(100)
            source.shuffle(gates)
            self.assertIsNone(check_circuit((("a",), tuple(gates), (), ())))
            gates = path(101)
            source.shuffle(gates)
            self.assertRaises(TooDeep, check_circuit, (("a",), tuple(gates), (), ()))

    def test_a_path_that_begins_with_no_pin(self):
        gates = [gate("p")] + path(100, first="p", prefix="x")
        self.assertRaises(TooDeep, check_circuit, ((), tuple(gates), (), ()))
        self.assertIsNone(check_circuit(((), tuple(gates[:-1]), (), ())))

    def test_the_longest_of_several_paths_counts(self):
        gates = path(99) + [gate("last", "a", "p98", "a")]
        self.assertIsNone(check_circuit((("a",), tuple(gates), (), ())))
        self.assertRaises(TooDeep, check_circuit, (("a",), tuple(gates + [gate("more", "last", "a")]), (), ()))
        gates = path(60) + path(60, prefix="x") + [gate("last", "p59", "x59")]
        self.assertIsNone(check_circuit((("a",), tuple(gates), (), ())))

    def test_a_path_ends_at_a_register(self):
        gates = path(70) + path(70, first="q", prefix="x")
        self.assertIsNone(check_circuit((("a",), tuple(gates), (reg("q", "p69"),), ())))

    def test_a_very_long_path(self):
        with few_calls():
            self.assertRaises(TooDeep, check_circuit, (("a",), tuple(path(5000)[::-1]), (), ()))


class Orders(unittest.TestCase):
    def is_order(self, gates, order):
        places = {gates[g][0]: at for at, g in enumerate(order)}
        return all(places.get(net, -1) < at for at, g in enumerate(order) for net in gates[g][2])

    def test_small_ones(self):
        self.assertEqual(gate_order(((), (), (), ())), [])
        self.assertEqual(gate_order(SOUND), [0, 1, 2])
        gates = (gate("x", "z"), gate("y", "a"), gate("z", "a"), gate("w"))
        self.assertEqual(gate_order((("a",), gates, (), ())), [1, 2, 0, 3])
        gates = (gate("x", "y"), gate("y", "z"), gate("z", "a"))
        self.assertEqual(gate_order((("a",), gates, (), ())), [2, 1, 0])

    def test_against_all_orders(self):
        source = random.Random(6)
        for _ in range(120):
            many = source.randrange(1, 7)
            places = list(range(many))
            source.shuffle(places)
            gates = [None] * many
            for at, g in enumerate(places):
                nets = [f"g{other}" for other in places[:at]] + ["a", "q"]
                gates[g] = gate(f"g{g}", *[source.choice(nets) for _ in range(source.randrange(4))])
            circuit = (("a",), tuple(gates), (reg("q", "g0"),), ())
            check_circuit(circuit)
            wanted = min(list(order) for order in itertools.permutations(range(many))
                         if self.is_order(gates, order))
            self.assertEqual(gate_order(circuit), wanted)

    def test_many_gates(self):
        gates = path(100)[::-1] + [gate(f"x{k}", "p99") for k in range(400)]
        with few_calls():
            self.assertEqual(gate_order((("a",), tuple(gates), (), ())),
                             list(range(99, -1, -1)) + list(range(100, 500)))


class Connections(unittest.TestCase):
    def test_sources(self):
        self.assertEqual(sources(SOUND), ["a", "b", "q", "r"])
        self.assertEqual(sources(((), (gate("g"),), (), ())), [])
        self.assertEqual(sources((("z", "a"), (), (reg("r", "a"), reg("q", "a")), ())), ["z", "a", "r", "q"])
        sources(SOUND).append("x")
        self.assertEqual(len(sources(SOUND)), 4)

    def test_readers(self):
        for net, pairs in (("a", [(0, 0)]), ("b", [(1, 2)]), ("g", [(1, 0), (1, 1)]), ("h", []), ("one", []),
                           ("q", [(0, 1)]), ("r", [])):
            self.assertEqual(readers(SOUND, net), pairs)
        gates = (gate("g", "h", "a"), gate("h", "a", "b", "a"), gate("k", "a"))
        self.assertEqual(readers((("a", "b"), gates, (), ()), "a"), [(0, 1), (1, 0), (1, 2), (2, 0)])

    def test_cone(self):
        gates = (gate("e", "c"), gate("c", "a", "b"), gate("d", "b", "q"), gate("k"), gate("f", "e", "d", "k"))
        circuit = (("a", "b"), gates, (reg("q", "f"), reg("r", "a")), (("y", "e"),))
        for names, found in (
                ([], []), (["a"], [0, 1, 4]), (["b"], [0, 1, 2, 4]), (["q"], [2, 4]), (["r"], []), (["f"], []),
                (["k"], [4]), (["e"], [4]), (["c"], [0, 4]), (["c", "d"], [0, 4]), (["a", "a"], [0, 1, 4]),
                (["a", "q"], [0, 1, 2, 4]), (["f", "r", "f"], []), (["c", "e", "c"], [0, 4])):
            self.assertEqual(cone(circuit, names), found)

    def test_names_are_not_changed(self):
        names = ["q", "a"]
        cone(SOUND, names)
        self.assertEqual(names, ["q", "a"])

    def test_against_the_definitions(self):
        source = random.Random(8)
        for _ in range(100):
            many = source.randrange(8)
            gates = []
            for g in range(many):
                nets = [f"g{k}" for k in range(g)] + ["a", "b", "q"]
                gates.append(gate(f"g{g}", *[source.choice(nets) for _ in range(source.randrange(4))]))
            source.shuffle(gates)
            circuit = (("a", "b"), tuple(gates), (reg("q", "a"),), ())
            nets = ["a", "b", "q"] + [one[0] for one in gates]
            for net in nets:
                self.assertEqual(readers(circuit, net), [
                    (g, pin) for g in range(many) for pin in range(len(gates[g][2])) if gates[g][2][pin] == net])
            names = [source.choice(nets) for _ in range(source.randrange(4))]
            touched = set(names)
            for _ in range(many):
                touched.update(one[0] for one in gates if touched.intersection(one[2]))
            wanted = [g for g in range(many) if set(names + [n for n in touched]) & set(gates[g][2])]
            self.assertEqual(cone(circuit, names), wanted)

    def test_unknown_names(self):
        for name in ("x", "y", "z", "", "gg", "g/d"):
            self.assertRaises(UnknownName, readers, SOUND, name)
            self.assertRaises(UnknownName, cone, SOUND, [name])
            self.assertRaises(UnknownName, cone, SOUND, ["a", name])
            self.assertRaises(UnknownName, cone, SOUND, [name, "a"])

    def test_a_long_path(self):
        circuit = (("a",), tuple(path(100)), (), ())
        with few_calls(50):
            self.assertEqual(cone(circuit, ["a"]), list(range(100)))


if __name__ == "__main__":
    unittest.main()
