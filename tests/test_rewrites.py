"""Points 11.1 to 11.5."""

import copy
import itertools
import random
import unittest

from signoff.circuits import check_circuit
from signoff.errors import BadArgument, Refused
from signoff.meaning import start_state, step, trace
from signoff.rewrites import move_forward, simplify, tidy
from signoff.settled import Settled
from tests.makers import (BOTH, BUFFER, EITHER, EXOR, INVERTER, nets_of, plain_settle, random_circuit, random_range,
                          reg,
                          source_names, vectors)

A = (1, 3)
B = (2, 6)
ONE = ("one", (True,), (), ())


def only(*gates, inputs=("a", "b", "c"), regs=(), outputs=()):
    return (inputs, gates, regs, outputs)


def simplified(*gates):
    return simplify(only(*gates))[1]


def random_constants(source, circuit):
    """The circuit in which some gates are constant, do not depend on a pin, or are twins of others."""
    inputs, gates, regs, outputs = circuit
    made = []
    for name, table, nets, ranges in gates:
        kind = source.randrange(6)
        if kind == 0:
            table = (source.random() < 0.5,) * len(table)
        elif kind == 1 and nets:
            pin = source.randrange(len(nets))
            table = tuple(table[row & ~(1 << pin)] for row in range(len(table)))
        elif kind == 2:
            nets, ranges, table = (), (), (source.random() < 0.5,)
        made.append((name, table, nets, ranges))
    # Some gates become copies of others under new names, or take over all but the nets.
    for k, gate in enumerate(list(made)):
        if source.random() < 0.4:
            made.insert(source.randrange(len(made) + 1), (f"t{k}", *gate[1:]))
    return (inputs, tuple(made), regs, outputs)


def random_window(source):
    since = source.randrange(-2, 4)
    return source.choice(((since, None), (None, since), (since, since + source.randrange(12))))


def cases(seed, many, **sizes):
    source = random.Random(seed)
    for _ in range(many):
        circuit = random_circuit(source, **{"inputs": 2, "regs": 2, "gates": 6, "low": 3, "spread": 3, **sizes})
        yield source, random_constants(source, circuit)


class Same(unittest.TestCase):
    """Point 11.3."""

    def check_same(self, source, circuit, found):
        check_circuit(found)
        self.assertEqual(source_names(found), source_names(circuit))
        nets = nets_of(found)
        self.assertLessEqual(set(nets), set(nets_of(circuit)))
        windows = [random_window(source) for _ in source_names(circuit)]
        before, after = Settled(circuit, windows), Settled(found, windows)
        for vector in vectors(circuit):
            old, new = plain_settle(circuit, vector), plain_settle(found, vector)
            self.assertEqual({net: old[net] for net in nets}, new)
            for net, time in itertools.product(nets, range(-4, 30, 2)):
                self.assertIs(before.is_settled(net, time, vector), after.is_settled(net, time, vector))
        rows = [tuple(source.random() < 0.5 for _ in circuit[0]) for _ in range(6)]
        self.assertEqual(trace(circuit, rows), trace(found, rows))
        self.assertEqual([port for port, _ in found[3]], [port for port, _ in circuit[3]])

    def test_simplify(self):
        for source, circuit in cases(1, 80):
            found = simplify(circuit)
            self.check_same(source, circuit, found)
            self.assertEqual(simplify(found), found)
            self.assertEqual([gate[0] for gate in found[1]], [gate[0] for gate in circuit[1]])
            self.assertEqual((found[0], found[2], found[3]), (circuit[0], circuit[2], circuit[3]))

    def test_tidy(self):
        removed = 0
        for source, circuit in cases(2, 80):
            found = tidy(circuit)
            self.check_same(source, circuit, found)
            self.assertEqual(tidy(found), found)
            left = [gate[0] for gate in found[1]]
            self.assertEqual([gate[0] for gate in circuit[1] if gate[0] in left], left)
            self.assertEqual([one[0] for one in found[2]], [one[0] for one in circuit[2]])
            removed += len(circuit[1]) - len(left)
        self.assertGreater(removed, 100)

    def test_both(self):
        for source, circuit in cases(3, 40):
            found = tidy(simplify(circuit))
            self.check_same(source, circuit, found)
            self.check_same(source, circuit, simplify(tidy(circuit)))
            self.assertEqual(simplify(found), found)


class Simplify(unittest.TestCase):
    def test_constant_gates(self):
        self.assertEqual(simplified(("g", (True, True), ("a",), (A,)), ("h", (False,) * 4, ("a", "a"), (A, B)), ONE),
                         (("g", (True,), (), ()), ("h", (False,), (), ()), ONE))

    def test_pins_that_do_not_matter(self):
        # a & !c, whatever b is
        table = tuple(bool(row & 1) and not row & 4 for row in range(8))
        self.assertEqual(simplified(("g", table, ("a", "b", "c"), (A, B, (0, 9)))),
                         (("g", (False, True, False, False), ("a", "c"), (A, (0, 9))),))
        self.assertEqual(simplified(("g", (False, False, True, True), ("a", "b"), (A, B))),
                         (("g", BUFFER, ("b",), (B,)),))
        # One net at two pins is looked at as two.
        self.assertEqual(simplified(("g", EXOR, ("a", "a"), (A, B))), (("g", EXOR, ("a", "a"), (A, B)),))

    def test_constants_at_pins(self):
        zero = ("zero", (False,), (), ())
        for table, nets, wanted in ((BOTH, ("a", "one"), ("g", BUFFER, ("a",), (A,))),
                                    (BOTH, ("one", "b"), ("g", BUFFER, ("b",), (B,))),
                                    (BOTH, ("a", "zero"), ("g", (False,), (), ())),
                                    (EITHER, ("one", "a"), ("g", (True,), (), ())),
                                    (EXOR, ("one", "b"), ("g", INVERTER, ("b",), (B,))),
                                    (EXOR, ("a", "zero"), ("g", BUFFER, ("a",), (A,))),
                                    (EXOR, ("one", "one"), ("g", (False,), (), ())),
                                    (EXOR, ("zero", "one"), ("g", (True,), (), ()))):
            self.assertEqual(simplified(("g", table, nets, (A, B)), ONE, zero), (wanted, ONE, zero))

    def test_constants_by_other_gates(self):
        # h is constant since g is, and x and y become smaller by that; they stand in any order.
        gates = (("y", EXOR, ("x", "h"), (A, B)), ("x", EITHER, ("h", "c"), (A, B)), ("h", BOTH, ("g", "a"), (A, B)),
                 ("g", (False, False), ("b",), (A,)))
        self.assertEqual(simplified(*gates), (("y", BUFFER, ("x",), (A,)), ("x", BUFFER, ("c",), (B,)),
                                              ("h", (False,), (), ()),
                                              ("g", (False,), (), ())))

    def test_six_pins(self):
        names = ("a", "b", "c", "d", "e", "f")
        table = tuple((row >> 1 & 1) ^ (row >> 4 & 1) == 1 for row in range(64))
        ranges = tuple((k, k + 2) for k in range(6))
        self.assertEqual(simplify((names, (("g", table, names, ranges),), (), ()))[1],
                         (("g", EXOR, ("b", "e"), ((1, 3), (4, 6))),))

    def test_nothing_to_do(self):
        circuit = (("a",), (("g", INVERTER, ("a",), (A,)), ("h", INVERTER, ("q",), (A,))), (reg("q", "h"),),
                   (("y", "g"),))
        self.assertEqual(simplify(circuit), circuit)
        self.assertEqual(simplify(((), (), (), ())), ((), (), (), ()))


class Tidy(unittest.TestCase):
    def test_twins(self):
        gates = (("g", BOTH, ("a", "b"), (A, B)), ("h", BOTH, ("a", "b"), (A, B)), ("x", EXOR, ("g", "h"), (A, A)),
                 ("y", EXOR, ("h", "h"), (A, A)), ("z", EXOR, ("h", "a"), (A, A)))
        circuit = only(*gates, regs=(reg("q", "y"), reg("p", "h")), outputs=(("u", "h"), ("v", "x"), ("w", "z")))
        self.assertEqual(tidy(circuit), only(
            gates[0], ("x", EXOR, ("g", "g"), (A, A)), ("z", EXOR, ("g", "a"), (A, A)),
            regs=(reg("q", "x"), reg("p", "g")),
            outputs=(("u", "g"), ("v", "x"), ("w", "z"))))

    def test_the_least_index_stays(self):
        # The gate that stands first comes last in the order of the gates.
        gates = (("x", BUFFER, ("t",), (A,)), ("y", BUFFER, ("s",), (A,)), ("s", INVERTER, ("a",), (A,)),
                 ("t", INVERTER, ("a",), (A,)))
        circuit = only(*gates, outputs=(("u", "x"), ("v", "y")))
        self.assertEqual(tidy(circuit), only(("x", BUFFER, ("s",), (A,)), gates[2], outputs=(("u", "x"), ("v", "x"))))

    def test_twins_of_twins(self):
        gates, many = [], 30
        for side in "xy":
            gates += [(f"{side}0", INVERTER, ("a",), (A,))]
            gates += [(f"{side}{k}", EXOR, (f"{side}{k - 1}", "b"), (A, B)) for k in range(1, many)]
        circuit = only(*gates, outputs=(("u", f"x{many - 1}"), ("v", f"y{many - 1}")))
        self.assertEqual(tidy(circuit), only(*gates[:many], outputs=(("u", f"x{many - 1}"), ("v", f"x{many - 1}"))))

    def test_no_twins(self):
        for other in (("h", EITHER, ("a", "b"), (A, B)), ("h", BOTH, ("b", "a"), (A, B)),
                      ("h", BOTH, ("a", "b"), (B, A)),
                      ("h", BOTH, ("a", "b"), (A, (2, 7))), ("h", BOTH, ("a", "c"), (A, B)),
                      ("h", BOTH, ("a", "a"), (A, B)),
                      ("h", BUFFER, ("a",), (A,))):
            circuit = only(("g", BOTH, ("a", "b"), (A, B)), other, outputs=(("u", "g"), ("v", "h")))
            self.assertEqual(tidy(circuit), circuit)

    def test_gates_without_pins(self):
        circuit = only(ONE, ("zero", (False,), (), ()), ("uno", (True,), (), ()), outputs=(("u", "uno"), ("v", "zero")))
        self.assertEqual(tidy(circuit), only(ONE, ("zero", (False,), (), ()), outputs=(("u", "one"), ("v", "zero"))))

    def test_idle_gates(self):
        chain = tuple((f"g{k}", INVERTER, (f"g{k - 1}" if k else "a",), (A,)) for k in range(6))
        # What only idle gates read is idle, too.
        self.assertEqual(tidy(only(*chain[::-1])), only())
        self.assertEqual(tidy(only(*chain, outputs=(("u", "g2"),))), only(*chain[:3], outputs=(("u", "g2"),)))
        self.assertEqual(tidy(only(*chain, regs=(reg("q", "g3"),))), only(*chain[:4], regs=(reg("q", "g3"),)))
        # A register is never idle.
        circuit = only(("n", INVERTER, ("q",), (A,)), regs=(reg("q", "n"), reg("p", "p"), reg("r", "a")))
        self.assertEqual(tidy(circuit), circuit)

    def test_idle_twins(self):
        gates = (("g", BOTH, ("a", "b"), (A, B)), ("h", BOTH, ("a", "b"), (A, B)), ("x", INVERTER, ("h",), (A,)))
        self.assertEqual(tidy(only(*gates, outputs=(("u", "h"),))), only(gates[0], outputs=(("u", "g"),)))
        self.assertEqual(tidy(only(*gates, outputs=(("u", "x"),))),
                         only(gates[0], ("x", INVERTER, ("g",), (A,)), outputs=(("u", "x"),)))

    def test_against_pairs_of_gates(self):
        # Twins by their words: compare two gates and, again and again, the gates at their pins.
        for _, circuit in cases(4, 100, gates=7):
            gates = {gate[0]: gate for gate in circuit[1]}

            def are_twins(one, other):
                if one == other:
                    return True
                if one not in gates or other not in gates:
                    return False
                _, table, nets, ranges = gates[one]
                return (table, ranges) == (gates[other][1], gates[other][3]) and all(
                    are_twins(*pair) for pair in zip(nets, gates[other][2]))

            def stays(net):
                return next((name for name in gates if are_twins(name, net)), net)

            needed, waiting = set(), [one[1] for one in circuit[2]] + [net for _, net in circuit[3]]
            while waiting:
                net = stays(waiting.pop())
                if net not in needed:
                    needed.add(net)
                    waiting.extend(gates[net][2] if net in gates else ())
            wanted = (circuit[0], tuple((name, table, tuple(stays(net) for net in nets), ranges)
                                        for name, table, nets, ranges in circuit[1] if name in needed),
                      tuple((one[0], stays(one[1]), *one[2:]) for one in circuit[2]),
                      tuple((port, stays(net)) for port, net in circuit[3]))
            self.assertEqual(tidy(circuit), wanted)


TIMES = ((0, 1), (1, 2), 1, 0)


def timed(name, net, start=False, times=TIMES):
    return (name, net, *times, start)


def moved(*gates, regs, outputs=(), g=0):
    return move_forward((("a", "b"), gates, regs, outputs), g)


class MoveForward(unittest.TestCase):
    G = ("g", BOTH, ("p", "q"), (A, B))

    def test_several_registers(self):
        found = moved(self.G, regs=(timed("p", "a", True), timed("q", "b", True)), outputs=(("y", "g"),))
        self.assertEqual(found, (("a", "b"), (("g/d", BOTH, ("a", "b"), (A, B)),), (timed("g", "g/d", True),),
                                 (("y", "g"),)))

    def test_one_register(self):
        regs = (timed("r", "r"), timed("p", "b", True), timed("s", "a"))
        gates = (("h", INVERTER, ("g",), (A,)), ("g", INVERTER, ("p",), (B,)), ("k", BUFFER, ("a",), (A,)))
        self.assertEqual(moved(*gates, regs=regs, outputs=(("y", "h"),), g=1),
                         (("a", "b"), (gates[0], ("g/d", INVERTER, ("b",), (B,)), gates[2]),
                          (regs[0], regs[2], timed("g", "g/d", False)), (("y", "h"),)))

    def test_one_register_at_two_pins(self):
        for start, table, wanted in ((True, EXOR, False), (False, EXOR, False), (True, BOTH, True),
                                     (False, (True, True, True, False), True)):
            found = moved(("g", table, ("p", "p"), (A, B)), regs=(timed("p", "a", start),))
            self.assertEqual(found, (("a", "b"), (("g/d", table, ("a", "a"), (A, B)),), (timed("g", "g/d", wanted),),
                                     ()))

    def test_start_values(self):
        for first, second in itertools.product((False, True), repeat=2):
            for table in itertools.product((False, True), repeat=4):
                found = moved(("g", table, ("p", "q"), (A, B)), regs=(timed("p", "a", first), timed("q", "b", second)))
                self.assertEqual(found[2], (timed("g", "g/d", table[first + 2 * second]),))

    def test_registers_that_are_still_read(self):
        p, q = timed("p", "a"), timed("q", "b")
        new = timed("g", "g/d")
        reader = ("h", INVERTER, ("q",), (A,))
        changed = ("g/d", BOTH, ("a", "b"), (A, B))
        self.assertEqual(moved(self.G, reader, regs=(p, q))[1:3], ((changed, reader), (q, new)))
        self.assertEqual(moved(self.G, regs=(p, q), outputs=(("y", "q"),))[2], (q, new))
        self.assertEqual(moved(self.G, regs=(p, q), outputs=(("y", "p"), ("z", "q")))[2], (p, q, new))
        other = timed("r", "p", times=((3, 4), (5, 6), 7, 0))
        self.assertEqual(moved(self.G, regs=(p, other, q))[2], (p, other, new))
        # Registers that nothing read before stay.
        idle = timed("i", "a")
        self.assertEqual(moved(self.G, regs=(p, idle, q))[2], (idle, new))

    def test_registers_that_are_read_by_the_moved_ones(self):
        # The gate now reads what the registers store: here p itself, or each other, or the gate.
        p, q = timed("p", "p"), timed("q", "b")
        self.assertEqual(moved(self.G, regs=(p, q))[1:3], ((("g/d", BOTH, ("p", "b"), (A, B)),),
                                                           (p, timed("g", "g/d"))))
        p, q = timed("p", "q"), timed("q", "b")
        self.assertEqual(moved(self.G, regs=(p, q))[1:3], ((("g/d", BOTH, ("q", "b"), (A, B)),),
                                                           (q, timed("g", "g/d"))))
        # Both are still there when it is looked at, so neither is removed.
        p, q = timed("p", "q"), timed("q", "p")
        self.assertEqual(moved(self.G, regs=(p, q))[1:3], ((("g/d", BOTH, ("q", "p"), (A, B)),),
                                                           (p, q, timed("g", "g/d"))))
        p, q = timed("p", "q"), timed("q", "a")
        only_p = ("g", INVERTER, ("p",), (A,))
        self.assertEqual(moved(only_p, regs=(p, q))[1:3], ((("g/d", INVERTER, ("q",), (A,)),),
                                                           (q, timed("g", "g/d", True))))
        # Nothing reads p any more, but p is looked at while it is there, and reads q.
        idle = ("g", INVERTER, ("q",), (A,))
        self.assertEqual(moved(idle, regs=(p, q))[2], (p, q, timed("g", "g/d", True)))

    def test_the_own_register(self):
        p = timed("p", "g")
        self.assertEqual(moved(("g", INVERTER, ("p",), (A,)), regs=(p,)),
                         (("a", "b"), (("g/d", INVERTER, ("g",), (A,)),), (timed("g", "g/d", True),), ()))

    def test_moving_again(self):
        circuit = (("a",), (("g", INVERTER, ("p",), (A,)), ("h", INVERTER, ("g",), (B,))), (timed("p", "a"),),
                   (("y", "h"),))
        once = move_forward(circuit, 0)
        twice = move_forward(once, 1)
        self.assertEqual(twice, (("a",), (("g/d", INVERTER, ("a",), (A,)), ("h/d", INVERTER, ("g/d",), (B,))),
                                 (timed("h", "h/d"),),
                                 (("y", "h"),)))

    def test_no_such_gate(self):
        circuit = (("a", "b"), (self.G,), (timed("p", "a"), timed("q", "b")), ())
        for g in (-1, 1, 2, -2, 10 ** 30):
            self.assertRaises(BadArgument, move_forward, circuit, g)
        self.assertRaises(BadArgument, move_forward, ((), (), (), ()), 0)

    def test_each_reason_alone(self):
        p, q = timed("p", "a"), timed("q", "b")
        moved(self.G, regs=(p, q))
        self.assertRaises(Refused, moved, ONE, regs=(p, q))
        for nets in (("a", "q"), ("p", "h"), ("b", "a"), ("h", "h")):
            self.assertRaises(Refused, moved, ("g", BOTH, nets, (A, B)), ("h", INVERTER, ("p",), (A,)), regs=(p, q))
        for times in (((0, 2), (1, 2), 1, 0), ((0, 1), (0, 2), 1, 0), ((0, 1), (1, 2), 2, 0), ((0, 1), (1, 2), 1, 1),
                      ((1, 1), (1, 2), 1, 0), ((0, 1), (1, 3), 1, 0)):
            self.assertRaises(Refused, moved, self.G, regs=(p, timed("q", "b", times=times)))
            # A register that the gate does not read does not matter.
            moved(self.G, regs=(p, q, timed("r", "b", times=times)))
        self.assertRaises(Refused, moved, self.G, ("g/d", INVERTER, ("a",), (A,)), regs=(p, q))
        self.assertRaises(Refused, moved, self.G, regs=(p, q, timed("g/d", "b")))
        self.assertRaises(Refused, move_forward, (("a", "g/d", "b"), (self.G,), (p, q), ()), 0)
        moved(self.G, regs=(p, q), outputs=(("g/d", "g"),))
        # Start values may differ.
        moved(self.G, regs=(p, timed("q", "b", True)))

    def test_long_paths(self):
        for many, is_good in ((98, True), (99, True), (100, False)):
            chain = tuple((f"x{k}", INVERTER, (f"x{k - 1}" if k else "a",), (A,)) for k in range(many))
            circuit = (("a", "b"), (*chain, self.G), (timed("p", f"x{many - 1}"), timed("q", "b")), ())
            if is_good:
                self.assertEqual(len(move_forward(circuit, many)[1]), many + 1)
            else:
                self.assertRaises(Refused, move_forward, circuit, many)
        # The path that began with the gate now ends with it, and is as long as before.
        chain = tuple((f"x{k}", INVERTER, (f"x{k - 1}" if k else "p",), (A,)) for k in range(100))
        found = move_forward((("a",), chain, (timed("p", "x99"),), ()), 0)
        self.assertEqual(found, (("a",), (("x0/d", INVERTER, ("x99",), (A,)), *chain[1:]), (timed("x0", "x0/d", True),),
                                 ()))

    def test_plain_meaning(self):
        source = random.Random(5)
        done = 0
        for _ in range(400):
            inputs, gates, regs, outputs = random_circuit(source, inputs=2, regs=3, gates=6, pins=2)
            regs = tuple((*one[:2], *regs[0][2:6], one[6]) for one in regs)
            names = [one[0] for one in regs]
            g = source.randrange(6)
            name, table, nets, _ = gates[g]
            nets = tuple(source.choice(names) for _ in nets)
            gates = (*gates[:g], (name, table, nets, tuple(random_range(source) for _ in nets)), *gates[g + 1:])
            circuit = (inputs, gates, regs, outputs)
            try:
                found = move_forward(circuit, g)
            except Refused:
                self.assertEqual(nets, ())
                continue
            done += 1
            check_circuit(found)
            rows = [tuple(source.random() < 0.5 for _ in inputs) for _ in range(7)]
            states = start_state(circuit), start_state(found)
            for row in rows:
                before, after = plain_settle(circuit, (*row, *states[0])), plain_settle(found, (*row, *states[1]))
                for net in set(before) & set(after):
                    self.assertIs(before[net], after[net])
                states = step(circuit, states[0], row), step(found, states[1], row)
        self.assertGreater(done, 200)

    def test_arguments_stay(self):
        circuit = (("a", "b"), (self.G, ONE), (timed("p", "a"), timed("q", "b")), (("y", "g"),))
        kept = copy.deepcopy(circuit)
        move_forward(circuit, 0), simplify(circuit), tidy(circuit)
        self.assertEqual(circuit, kept)


if __name__ == "__main__":
    unittest.main()
