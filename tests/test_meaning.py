"""Points 3.4 and 3.5."""

import copy
import random
import unittest

from signoff.diagrams import Diagrams
from signoff.meaning import functions, settle, start_state, step, trace
from tests.helpers import few_calls
from tests.makers import (BOTH, BUFFER, EITHER, EXOR, INVERTER, nets_of, plain_settle, random_circuit,
                          reg, vectors)

RANGE = (1, 3)


def gate(name, table, *nets):
    return (name, table, nets, (RANGE,) * len(nets))


def circuits(seed, many, **sizes):
    source = random.Random(seed)
    return [random_circuit(source, **sizes) for _ in range(many)]


ADDER = (
    ("a", "b", "c"),
    (gate("carry", EITHER, "both", "late"), gate("sum", EXOR, "half", "c"), gate("late", BOTH, "half", "c"),
     gate("half", EXOR, "a", "b"), gate("both", BOTH, "a", "b")),
    (),
    (("s", "sum"), ("c", "carry")),
)


class Settling(unittest.TestCase):
    def test_an_adder(self):
        for vector in vectors(ADDER):
            values = settle(ADDER, vector)
            self.assertEqual(2 * values["carry"] + values["sum"], sum(vector))
            self.assertEqual(sorted(values), sorted(nets_of(ADDER)))

    def test_no_nets_and_sources_only(self):
        self.assertEqual(settle(((), (), (), ()), ()), {})
        circuit = (("a",), (), (reg("q", "a"), reg("p", "q")), (("y", "q"),))
        self.assertEqual(settle(circuit, (True, False, True)), {"a": True, "q": False, "p": True})

    def test_gates_without_pins(self):
        circuit = ((), (gate("n", INVERTER, "one"), gate("one", (True,)), gate("zero", (False,)),
                        gate("g", EITHER, "zero", "n")), (), ())
        self.assertEqual(settle(circuit, ()), {"n": False, "one": True, "zero": False, "g": False})

    def test_one_net_at_several_pins(self):
        circuit = (("a",), (gate("x", EXOR, "a", "a"), gate("y", (False,) * 7 + (True,), "a", "a", "a")), (), ())
        self.assertEqual(settle(circuit, (True,)), {"a": True, "x": False, "y": True})

    def test_the_order_of_pins(self):
        table = (False, True, False, False)
        circuit = (("a", "b"), (gate("g", table, "a", "b"), gate("h", table, "b", "a")), (), ())
        self.assertEqual(settle(circuit, (True, False)), {"a": True, "b": False, "g": True, "h": False})

    def test_random_circuits(self):
        for circuit in circuits(1, 150, inputs=2, regs=2, gates=6, pins=4) + circuits(2, 20, gates=0):
            for vector in vectors(circuit):
                values = settle(circuit, vector)
                self.assertEqual(values, plain_settle(circuit, vector))
                self.assertTrue(all(type(value) is bool for value in values.values()))

    def test_what_is_returned_is_new(self):
        settle(ADDER, (True, True, True)).clear()
        self.assertEqual(len(settle(ADDER, (True, True, True))), 8)

    def test_a_long_path(self):
        gates = [gate(f"g{k}", INVERTER, f"g{k - 1}" if k else "a") for k in range(100)][::-1]
        with few_calls(50):
            self.assertEqual(settle((("a",), tuple(gates), (), ()), (True,))["g99"], True)
            self.assertEqual(settle((("a",), tuple(gates), (), ()), (True,))["g98"], False)


class Functions(unittest.TestCase):
    def test_against_settle(self):
        for circuit in circuits(3, 80, inputs=2, regs=2, gates=6, pins=4) + [ADDER, ((), (), (), ())]:
            diagrams = Diagrams()
            found = functions(circuit, diagrams)
            self.assertEqual(sorted(found), sorted(nets_of(circuit)))
            for vector in vectors(circuit):
                values = settle(circuit, vector)
                for net, reference in found.items():
                    self.assertEqual(diagrams.value(reference, vector), values[net])

    def test_sources_are_variables(self):
        diagrams = Diagrams()
        circuit = (("b", "a"), (gate("g", BUFFER, "a"),), (reg("q", "g"),), ())
        found = functions(circuit, diagrams)
        self.assertEqual([found[net] for net in ("b", "a", "q")], [diagrams.variable(k) for k in range(3)])
        self.assertEqual(found["g"], found["a"])

    def test_again_with_the_same_object(self):
        for circuit in circuits(4, 20, inputs=3, regs=1, gates=7):
            diagrams = Diagrams()
            diagrams.both(diagrams.variable(5), diagrams.negate(diagrams.variable(1)))
            found = functions(circuit, diagrams)
            functions(ADDER, diagrams)
            self.assertEqual(functions(circuit, diagrams), found)

    def test_equal_functions_have_equal_references(self):
        diagrams = Diagrams()
        gates = (gate("x", EXOR, "a", "b"), gate("y", EXOR, "n", "m"), gate("n", INVERTER, "a"),
                 gate("m", INVERTER, "b"), gate("z", EXOR, "x", "y"))
        found = functions((("a", "b"), gates, (), ()), diagrams)
        self.assertEqual(found["x"], found["y"])
        self.assertEqual(found["z"], 0)


class Steps(unittest.TestCase):
    MIXED = (
        ("a", "b"),
        (gate("g", EXOR, "a", "q"), gate("n", INVERTER, "s")),
        (reg("p", "a", start=True), reg("q", "g"), reg("r", "q"), reg("s", "n"), reg("t", "t", start=True),
         reg("u", "v", start=True), reg("v", "u")),
        (("y", "g"),),
    )

    def test_start_state(self):
        self.assertEqual(start_state(self.MIXED), (True, False, False, False, True, True, False))
        self.assertEqual(start_state(ADDER), ())

    def test_one_step(self):
        state = start_state(self.MIXED)
        self.assertEqual(step(self.MIXED, state, (True, False)), (True, True, False, True, True, False, True))
        self.assertEqual(step(self.MIXED, state, (False, True)), (False, False, False, True, True, False, True))
        self.assertEqual(step(ADDER, (), (True, True, False)), ())

    def test_trace(self):
        self.assertEqual(trace(self.MIXED, []), [start_state(self.MIXED)])
        rows = [(True, False), (False, False), (True, True)]
        self.assertEqual(trace(self.MIXED, rows[:1]), [start_state(self.MIXED), step(
            self.MIXED, start_state(self.MIXED), rows[0])])
        self.assertEqual([state[:3] for state in trace(self.MIXED, rows)],
                         [(True, False, False), (True, True, False), (False, True, True), (True, False, True)])
        self.assertEqual([state[3] for state in trace(self.MIXED, rows)], [False, True, False, True])
        self.assertEqual([state[5:] for state in trace(self.MIXED, rows)], [(True, False), (False, True)] * 2)

    def test_a_circuit_without_registers(self):
        self.assertEqual(trace(ADDER, [(True, True, True)] * 3), [()] * 4)

    def test_random_circuits(self):
        source = random.Random(5)
        for circuit in circuits(6, 120, inputs=2, regs=3, gates=5):
            rows = [tuple(source.random() < 0.5 for _ in circuit[0]) for _ in range(source.randrange(5))]
            states = trace(circuit, rows)
            self.assertEqual(len(states), len(rows) + 1)
            self.assertEqual(states[0], tuple(one[6] for one in circuit[2]))
            for bits, before, after in zip(rows, states, states[1:]):
                values = plain_settle(circuit, bits + before)
                self.assertEqual(after, tuple(values[one[1]] for one in circuit[2]))
                self.assertEqual(step(circuit, before, bits), after)
                self.assertIs(type(after), tuple)

    def test_nothing_is_changed(self):
        rows = [(True, False), (False, True)]
        kept = copy.deepcopy((self.MIXED, rows))
        trace(self.MIXED, rows).append("x")
        self.assertEqual((self.MIXED, rows), kept)
        self.assertEqual(len(trace(self.MIXED, rows)), 3)


if __name__ == "__main__":
    unittest.main()
