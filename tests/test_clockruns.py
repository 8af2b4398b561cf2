"""Points 8.2, 8.6 and 8.7."""

import copy
import itertools
import random
import unittest

from signoff.clocked import Clocked
from signoff.clockruns import ClockedRun
from signoff.errors import BadArgument, BadRange, UnknownName, WrongCount
from signoff.meaning import trace
from tests.helpers import few_calls
from tests.makers import (BUFFER, EXOR, INVERTER, clean_clocked, nets_of, plain_settle, random_clocked, random_play,
                          reg)
from tests.plain import PlainClockedRun


def run_of(circuit, period, holds, rows, edges, shakes, guesses, delays):
    return ClockedRun(Clocked(circuit, period, holds), rows, edges=edges, shakes=shakes, guesses=guesses,
                      delays=delays)


def times_of(clocked, cycles):
    return range(-30, (cycles + 1) * clocked.period + 30)


class EdgeByEdge(unittest.TestCase):
    def check(self, source, clocked, cycles):
        rows, play = random_play(source, clocked, cycles)
        run = ClockedRun(clocked, rows, **play)
        plain = PlainClockedRun(clocked, rows, **play)
        for k in range(cycles + 1):
            self.assertEqual(run.state(k), plain.state(k))
            self.assertIs(type(run.state(k)), tuple)
        for r, k in itertools.product(range(len(clocked.circuit()[2])), range(1, cycles + 1)):
            self.assertEqual(run.edge_time(r, k), plain.edge_time(r, k))
        for net in nets_of(clocked.circuit()):
            for time in times_of(clocked, cycles):
                self.assertIs(run.value(net, time), plain.value(net, time), (net, time))

    def test_random_runs(self):
        source = random.Random(1)
        for at in range(150):
            self.check(source, random_clocked(source), at % 5)

    def test_many_registers_that_store_each_other(self):
        source = random.Random(2)
        for _ in range(60):
            self.check(source, random_clocked(source, inputs=source.randrange(2), regs=5, gates=2, pins=2), 4)
        for _ in range(30):
            self.check(source, random_clocked(source, inputs=1, regs=3, gates=0), 4)

    def test_no_registers_and_no_inputs(self):
        source = random.Random(3)
        for _ in range(10):
            self.check(source, random_clocked(source, inputs=2, regs=0, gates=3), 3)
            self.check(source, random_clocked(source, inputs=0, regs=1, gates=2), 3)
            self.check(source, random_clocked(source, inputs=0, regs=0, gates=2), 2)

    def test_short_periods(self):
        # Edges come faster than what was stored can show.
        source = random.Random(4)
        for _ in range(60):
            self.check(source, random_clocked(source, period=3, regs=3, gates=3), 9)

    def test_a_register_that_shows_long_after_its_edge(self):
        # r shows late but holds short, so that what it stores may depend on later edges of others.
        late = reg("r", "q", (0, 2), (20, 24), 1, 23, True)
        soon = reg("q", "n", (0, 3), (0, 1), 2, 0, False)
        circuit = (("a",), (("n", EXOR, ("r", "a"), ((0, 2), (1, 3))),), (late, soon), ())
        source = random.Random(5)
        for period in (4, 5, 9, 30):
            for _ in range(10):
                self.check(source, Clocked(circuit, period, [(2, 1)]), 7)

    def test_reg_that_stores_itself(self):
        circuit = ((), (), (reg("q", "q", (0, 0), (2, 4), 1, 1, True),), ())
        run = run_of(circuit, 10, [], [()] * 3, [[0]], [[False, True]], [[False]], [])
        self.assertEqual([run.state(k) for k in range(4)], [(True,)] * 4)
        # With the setup of 7 the register sees its own shakes.
        circuit = ((), (), (reg("q", "q", (0, 0), (2, 4), 7, 1, True),), ())
        run = run_of(circuit, 10, [], [()] * 3, [[0]], [[False]], [[True, True, False]], [])
        self.assertEqual([run.state(k) for k in range(4)], [(True,), (True,), (False,), (False,)])


def stores(holds, shake, *, setup=3, hold=2, edge=0, bit=True):
    """What a register stores at its edge at 20 + edge, whose net is an input, and which guesses at random."""
    circuit = (("a",), (), (reg("q", "a", (0, 4), (3, 4), setup, hold, False),), ())
    found = [run_of(circuit, 20, [holds], [(bit,)], [[edge]], [[shake], [False]], [[guess]], []).state(1)[0]
             for guess in (False, True)]
    return found[0] if found[0] == found[1] else None


class SetupAndHold(unittest.TestCase):
    def test_ends(self):
        # The input has its bit from since on and before 20 + until; the register looks from 17 to 22.
        for holds, wanted in (((17, 3), True), ((3, 3), True), ((18, 3), None), ((17, 2), None), ((19, 3), None),
                              ((16, 4), True), ((21, 3), None), ((23, 3), False), ((22, 3), None), ((17, -3), False),
                              ((17, -2), None), ((9, -9), False)):
            self.assertIs(stores(holds, False), wanted, holds)
            # A net that does not change is stored, also if it only shakes to its own value.
            self.assertIs(stores(holds, True), True)

    def test_edge_within_its_range(self):
        for edge in range(5):
            self.assertIs(stores((17 + edge, 3 + edge), False, edge=edge), True)
            self.assertIsNone(stores((18 + edge, 3 + edge), False, edge=edge))
            self.assertIsNone(stores((17 + edge, 2 + edge), False, edge=edge))

    def test_no_setup_and_no_hold(self):
        self.assertIs(stores((20, 1), False, setup=0, hold=0), True)
        self.assertIs(stores((21, 1), False, setup=0, hold=0), False)
        self.assertIs(stores((20, 0), False, setup=0, hold=0), False)
        self.assertIs(stores((19, 0), False, setup=1, hold=0), None)

    def test_guesses(self):
        circuit = (("a",), (), (reg("q", "a", (0, 0), (3, 4), 1, 1, False),), ())
        run = run_of(circuit, 10, [(0, -1)], [(True,)] * 6, [[0]], [[False], [False]], [[True, False, False]], [])
        # At the edge 6 the input shakes behind its last window.
        self.assertEqual([run.state(k)[0] for k in range(7)], [False] * 3 + [True] + [False] * 3)
        run = run_of(circuit, 10, [(0, -1)], [(True,)] * 6, [[0]], [[True], [False]], [[True, False]], [])
        self.assertEqual([run.state(k)[0] for k in range(7)], [False] + [True] * 6)


class Shows(unittest.TestCase):
    def test_output(self):
        circuit = (("a",), (), (reg("q", "a", (0, 3), (2, 5), 0, 0, False),), ())
        run = run_of(circuit, 20, [(15, 10)], [(True,), (False,)], [[1, 3]], [[False], [True, False]], [[False]], [])
        # The edges come at 23 and 41.
        self.assertEqual((run.edge_time(0, 1), run.edge_time(0, 2)), (23, 41))
        self.assertEqual([run.state(k) for k in range(3)], [(False,), (True,), (False,)])
        self.assertEqual([run.value("q", time) for time in (-99, 0, 23, 24)], [False] * 4)
        self.assertEqual([run.value("q", time) for time in range(24, 30)], [False, False, True, False, True, True])
        self.assertEqual([run.value("q", time) for time in range(40, 49)],
                         [True, True, True, False, True, False, False, False, False])
        self.assertIs(run.value("q", 10 ** 30), False)

    def test_inputs(self):
        circuit = (("a",), (), (), ())
        run = run_of(circuit, 10, [(3, 1)], [(True,), (False,)], [], [[False, False, True]], [], [])
        # The windows go from 3 to 10 and from 13 to 20.
        wanted = {-4: True, -3: False, 2: True, 3: True, 4: True, 9: True, 10: True, 11: True, 12: False, 13: False,
                  14: False, 17: False, 20: False, 21: False, 23: True, 26: True, 27: False}
        self.assertEqual({time: run.value("a", time) for time in wanted}, wanted)
        self.assertIs(run.value("a", 3 * 10 ** 30 + 2), True)
        self.assertIs(run.value("a", -3 * 10 ** 30), False)

    def test_an_input_with_empty_windows(self):
        run = run_of((("a",), (), (), ()), 4, [(3, -1)], [(True,)] * 9, [], [[False]], [], [])
        self.assertEqual({run.value("a", time) for time in range(-9, 60)}, {False})

    def test_no_rows(self):
        circuit = (("a",), (("g", EXOR, ("a", "q"), ((1, 3), (1, 3))),), (reg("q", "g", start=True),), ())
        run = run_of(circuit, 9, [(0, 0)], [], [[0]], [[True, False, False], [False]], [[False]], [[[1], [3]]])
        self.assertEqual(run.state(0), (True,))
        self.assertRaises(BadArgument, run.state, 1)
        self.assertRaises(BadArgument, run.edge_time, 0, 1)
        for time in range(-20, 60):
            self.assertIs(run.value("a", time), time % 3 == 0)
            self.assertIs(run.value("q", time), True)
            self.assertIs(run.value("g", time), (time - 1) % 3 != 0)

    def test_lists_of_delays_at_negative_times(self):
        circuit = (("a",), (("g", BUFFER, ("a",), ((0, 20),)),), (), ())
        run = run_of(circuit, 9, [(0, 0)], [], [], [[True, False, False, False, False]], [], [[[0, 7, 20]]])
        for time in range(-40, 40):
            self.assertIs(run.value("g", time), (time - (0, 7, 20)[time % 3]) % 5 == 0)

    def test_long_paths_and_many_cycles(self):
        gates = [("g0", INVERTER, ("q",), ((1, 3),))]
        gates += [(f"g{k}", EXOR, (f"g{k - 1}", f"g{k - 1}" if k % 2 else "a"), ((1, 3), (0, 2))) for k in range(1,
                                                                                                                 100)]
        circuit = (("a",), tuple(gates), (reg("q", "g99", (0, 5), (1, 4), 2, 1), reg("p", "q", (0, 0), (9, 9), 1, 1)),
                   ())
        with few_calls():
            run = run_of(circuit, 400, [(0, 0)], [(k % 3 == 0,) for k in range(40)], [[0, 5, 2], [0]],
                         [[True, False]] * 3, [[True], [False]], [[[1, 2, 3], [0, 2]][:len(gate[2])] for gate in gates])
            run.value("g99", 12345)
        run = run_of(circuit, 400, [(0, 0)], [(True,)] * 3, [[0], [0]], [[True, False]] * 3, [[True], [False]],
                     [[[1, 2, 3], [0, 2]][:len(gate[2])] for gate in gates])
        plain = PlainClockedRun(Clocked(circuit, 400, [(0, 0)]), [(True,)] * 3, [[0], [0]], [[True, False]] * 3,
                                [[True], [False]], [[[1, 2, 3], [0, 2]][:len(gate[2])] for gate in gates])
        self.assertEqual([run.state(k) for k in range(4)], [plain.state(k) for k in range(4)])

    def test_large_times(self):
        far = 10 ** 30
        circuit = (("a",), (("g", INVERTER, ("a",), ((far, 2 * far),)),),
                   (reg("q", "g", (far, far + 2), (1, 4), 2, 2),), ())
        run = run_of(circuit, 9 * far, [(far, 5)], [(True,), (False,)], [[far, far + 2]], [[False], [True]], [[True]],
                     [[[far, 2 * far]]])
        self.assertEqual([run.state(k) for k in range(3)], [(False,), (False,), (True,)])
        self.assertEqual((run.edge_time(0, 1), run.edge_time(0, 2)), (10 * far + 2, 19 * far))


CIRCUIT = (
    ("a", "b"),
    (("g", EXOR, ("a", "q"), ((1, 3), (2, 4))), ("h", BUFFER, ("g",), ((1, 3),))),
    (reg("q", "g", (1, 2), (2, 4), 1, 1), reg("r", "h", (0, 3), (3, 4), 1, 1)),
    (),
)
HOLDS = [(2, 2), (3, 1)]
PLAY = {
    "rows": [(True, False), (False, False)],
    "edges": [[1, 2], [0, 3, 1]],
    "shakes": [[True], [True, False], [False], [False, True]],
    "guesses": [[True], [False, True]],
    "delays": [[[1, 2], [4]], [[3]]],
}


def play_with(**changed):
    parts = {**copy.deepcopy(PLAY), **changed}
    return ClockedRun(Clocked(CIRCUIT, 20, HOLDS), parts.pop("rows"), **parts)


class Errors(unittest.TestCase):
    def test_none(self):
        self.assertEqual(play_with().state(0), (False, False))

    def test_wrong_counts(self):
        for part in ("edges", "shakes", "guesses", "delays"):
            whole = PLAY[part]
            for rows in (whole[:-1], whole + whole[:1], [], *[whole[:k] + [[]] + whole[k + 1:]
                                                               for k in range(len(whole))]):
                self.assertRaises(WrongCount, play_with, **{part: rows})
        for rows in ([(True,), (True, False)], [(True, False), ()], [(True, False, True)]):
            self.assertRaises(WrongCount, play_with, rows=rows)
        for delays in ([[[1], [4], [4]], [[3]]], [[[1], []], [[3]]], [[[1], [4]], [[3], [3]]], [[[4]], [[3]]]):
            self.assertRaises(WrongCount, play_with, delays=delays)

    def test_ranges(self):
        for edges in ([[0, 2], [0]], [[1, 3], [0]], [[1], [4]], [[1], [0, 0, -1]]):
            self.assertRaises(BadRange, play_with, edges=edges)
        for delays in ([[[0], [4]], [[3]]], [[[1], [5]], [[3]]], [[[1, 3, 4], [4]], [[3]]], [[[1], [4]], [[3, 0]]]):
            self.assertRaises(BadRange, play_with, delays=delays)
        play_with(edges=[[1, 2, 1], [0, 3]], delays=[[[1, 3], [2, 4]], [[1, 2, 3]]])

    def test_which_error_comes_first(self):
        bad = {"edges": [[9], [9]], "delays": [[[9], [9]], [[9]]]}
        self.assertRaises(BadRange, play_with, **bad)
        for wrong in ({"rows": [()]}, {"shakes": []}, {"guesses": [[], []]}, {"edges": [[9], []]},
                      {"delays": [[[9], []], [[9]]]}):
            self.assertRaises(WrongCount, play_with, **{**bad, **wrong})

    def test_methods(self):
        run = play_with()
        for k in (-1, 3, 10 ** 30, -10 ** 30):
            self.assertRaises(BadArgument, run.state, k)
        for r, k in ((-1, 1), (2, 1), (0, 0), (0, 3), (1, -1), (-1, 0), (2, 9)):
            self.assertRaises(BadArgument, run.edge_time, r, k)
        for net in ("", "x", "Q", "g "):
            self.assertRaises(UnknownName, run.value, net, 5)

    def test_by_keyword_only(self):
        self.assertRaises(TypeError, ClockedRun, Clocked(CIRCUIT, 20, HOLDS), *PLAY.values())


class Copies(unittest.TestCase):
    def test_lists_that_are_changed_afterwards(self):
        parts = copy.deepcopy(PLAY)
        run = ClockedRun(Clocked(CIRCUIT, 20, HOLDS), parts["rows"], edges=parts["edges"], shakes=parts["shakes"],
                         guesses=parts["guesses"], delays=parts["delays"])
        self.assertEqual(parts, PLAY)
        other = play_with()
        for part in parts.values():
            for row in part:
                if isinstance(row, list):
                    for inner in row:
                        if isinstance(inner, list):
                            inner.clear()
                    row.clear()
            part.clear()
        for net, time in itertools.product(nets_of(CIRCUIT), range(-10, 70)):
            self.assertIs(run.value(net, time), other.value(net, time))
        self.assertEqual([run.state(k) for k in range(3)], [other.state(k) for k in range(3)])
        self.assertEqual(run.edge_time(1, 2), 41)

    def test_the_order_of_questions_does_not_matter(self):
        source = random.Random(6)
        clocked = random_clocked(source, regs=3, gates=6)
        rows, play = random_play(source, clocked, 4)
        questions = list(itertools.product(nets_of(clocked.circuit()), times_of(clocked, 4)))
        first = ClockedRun(clocked, rows, **play)
        wanted = {pair: first.value(*pair) for pair in questions}
        source.shuffle(questions)
        second = ClockedRun(clocked, rows, **play)
        for pair in questions:
            self.assertIs(second.value(*pair), wanted[pair])

    def test_more_values_than_are_remembered(self):
        source = random.Random(7)
        clocked = random_clocked(source, regs=2, gates=4)
        rows, play = random_play(source, clocked, 3)
        run = ClockedRun(clocked, rows, **play)
        plain = PlainClockedRun(clocked, rows, **play)
        net = nets_of(clocked.circuit())[-1]
        for time in range(-150000, 150000, 3):
            self.assertIs(run.value(net, time), plain.value(net, time))


class CleanCircuits(unittest.TestCase):
    def check(self, source, clocked, cycles):
        rows, play = random_play(source, clocked, cycles)
        run = ClockedRun(clocked, rows, **play)
        states = trace(clocked.circuit(), rows)
        self.assertEqual([run.state(k) for k in range(cycles + 1)], states)
        settled = clocked.settled()
        period = clocked.period
        for k, row in enumerate(rows):
            vector = (*row, *states[k])
            values = plain_settle(clocked.circuit(), vector)
            for net in nets_of(clocked.circuit()):
                for time in range(-5, 2 * period + 20, 1 + period // 30):
                    if settled.is_settled(net, time, vector):
                        self.assertIs(run.value(net, k * period + time), values[net])
                        self.found += 1

    def test_states_and_settled_nets(self):
        source = random.Random(8)
        self.found = 0
        for _ in range(25):
            clocked = clean_clocked(source)
            self.assertIs(clocked.is_clean(), True)
            for cycles in (0, 1, 4):
                self.check(source, clocked, cycles)
        self.assertGreater(self.found, 10000)

    def test_adversaries(self):
        # Edges and delays at the ends of their ranges, and shakes that change all the time.
        source = random.Random(9)
        for _ in range(40):
            clocked = clean_clocked(source)
            circuit = clocked.circuit()
            rows = [tuple(source.random() < 0.5 for _ in circuit[0]) for _ in range(6)]
            for end in (0, 1):
                run = ClockedRun(clocked, rows, edges=[[one[2][end], one[2][1 - end]] for one in circuit[2]],
                                 shakes=[[True, False]] * (len(circuit[0]) + len(circuit[2])),
                                 guesses=[[bool(end)]] * len(circuit[2]),
                                 delays=[[[pair[end]] for pair in gate[3]] for gate in circuit[1]])
                self.assertEqual([run.state(k) for k in range(7)], trace(circuit, rows))


if __name__ == "__main__":
    unittest.main()
