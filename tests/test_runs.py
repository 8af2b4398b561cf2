"""Points 5.3 and 5.4."""

import copy
import random
import unittest

from signoff.errors import BadRange, UnknownName, WrongCount
from signoff.runs import Run
from signoff.waveforms import Waveform
from tests.helpers import few_calls
from tests.makers import BOTH, BUFFER, EXOR, INVERTER, nets_of, plain_settle, random_circuit, reg, source_names

TIMES = range(-12, 25)


class Plain:
    """The values of a run by the words of point 5.3."""

    def __init__(self, circuit, waves, delays):
        self.roots = dict(zip(source_names(circuit), waves))
        self.gates = {gate[0]: (gate, rows) for gate, rows in zip(circuit[1], delays)}
        self.known = {}

    def value(self, net, time):
        if net in self.roots:
            wave = self.roots[net]
            return wave.start != (sum(change <= time for change in wave.changes()) % 2 == 1)
        if (net, time) not in self.known:
            (_, table, nets, _), rows = self.gates[net]
            bits = [self.value(other, time - row[time % len(row)]) for other, row in zip(nets, rows)]
            self.known[net, time] = table[sum(2 ** j for j, bit in enumerate(bits) if bit)]
        return self.known[net, time]


def random_wave(source, most=5, low=-8, high=12):
    return Waveform(source.random() < 0.5, sorted(source.sample(range(low, high), source.randrange(most))))


def random_parts(source, **sizes):
    """A circuit, waveforms for its sources, and delays for its pins."""
    circuit = random_circuit(source, **sizes)
    waves = [random_wave(source) for _ in source_names(circuit)]
    delays = [[[source.randint(*pair) for _ in range(source.randrange(1, 5))] for pair in gate[3]]
              for gate in circuit[1]]
    return circuit, waves, delays


CIRCUIT = (
    ("a", "b"),
    (("h", EXOR, ("g", "q"), ((0, 2), (3, 5))), ("g", BOTH, ("a", "b"), ((1, 3), (2, 6))), ("one", (True,), (), ())),
    (reg("q", "h"),),
    (),
)
WAVES = [Waveform(False, [0]), Waveform(True, [9]), Waveform(False, [])]
DELAYS = [[[1], [4]], [[1, 3], [6]], []]


class Values(unittest.TestCase):
    def check(self, circuit, waves, delays):
        run = Run(circuit, waves, delays)
        plain = Plain(circuit, waves, delays)
        for net in nets_of(circuit):
            bits = [plain.value(net, time) for time in TIMES]
            self.assertEqual(run.bits(net, TIMES[0], TIMES[-1]), bits)
            self.assertEqual([run.value(net, time) for time in TIMES], bits)
            self.assertTrue(all(type(bit) is bool for bit in run.bits(net, -3, 3)))

    def test_random_runs(self):
        source = random.Random(1)
        for _ in range(150):
            self.check(*random_parts(source, inputs=2, regs=1, gates=6, low=3, spread=4))
        for _ in range(10):
            self.check(*random_parts(source, inputs=0, regs=0, gates=4))
            self.check(*random_parts(source, inputs=1, regs=0, gates=0))

    def test_negative_times(self):
        # At the time t the delay is the item with the index t modulo 3, also if t is negative.
        circuit = (("a",), (("g", BUFFER, ("a",), ((0, 20),)),), (), ())
        wave = Waveform(False, list(range(-40, 40, 3)))
        run = Run(circuit, [wave], [[[0, 7, 20]]])
        for time in range(-20, 20):
            self.assertEqual(run.value("g", time), wave.value_at(time - (0, 7, 20)[(time + 99) % 3]))
        self.assertEqual(run.value("g", -1), wave.value_at(-21))
        self.assertEqual(run.value("g", -2), wave.value_at(-9))

    def test_by_hand(self):
        run = Run(CIRCUIT, WAVES, DELAYS)
        self.assertEqual(run.bits("g", 0, 16), [False, False] + [True] * 13 + [False, False])
        self.assertEqual(run.bits("h", 0, 6), [False, False, False, True, True, True, True])
        self.assertEqual(run.bits("one", -3, 1), [True] * 5)
        self.assertEqual([run.value("a", time) for time in (-1, 0, 1)], [False, True, True])
        self.assertIs(run.value("q", 0), False)

    def test_bits_over_an_empty_interval(self):
        run = Run(CIRCUIT, WAVES, DELAYS)
        for net in nets_of(CIRCUIT):
            self.assertEqual(run.bits(net, 3, 2), [])
            self.assertEqual(run.bits(net, 3, -10 ** 30), [])
            self.assertEqual(len(run.bits(net, 3, 3)), 1)

    def test_far_times(self):
        source = random.Random(2)
        for _ in range(30):
            circuit, waves, delays = random_parts(source, gates=6)
            run = Run(circuit, waves, delays)
            before = plain_settle(circuit, [wave.start for wave in waves])
            after = plain_settle(circuit, [wave.value_at(10 ** 9) for wave in waves])
            for net in nets_of(circuit):
                self.assertEqual(run.value(net, -10 ** 50), before[net])
                self.assertEqual(run.value(net, 10 ** 50), after[net])

    def test_waveforms_with_many_changes(self):
        source = random.Random(3)
        for many in (90, 102, 205):
            circuit, _, delays = random_parts(source, inputs=2, regs=1, gates=4, low=2, spread=3)
            waves = [Waveform(False, sorted(source.sample(range(0, 1500), many))) for _ in range(3)]
            run = Run(circuit, waves, delays)
            plain = Plain(circuit, waves, delays)
            for net in nets_of(circuit):
                bits = [plain.value(net, time) for time in range(-5, 1600)]
                self.assertEqual(run.bits(net, -5, 1599), bits)
                for low, high in ((0, 100), (100, 800), (700, 701), (800, 1599)):
                    inside = [time for time in range(low + 1, high + 1) if bits[time + 5] != bits[time + 4]]
                    self.assertEqual(run.first_change(net, low, high), inside[0] if inside else None)
                    self.assertEqual(run.last_change(net, low, high), inside[-1] if inside else None)

    def test_a_long_path_and_many_paths(self):
        gates = [("g0", BUFFER, ("a",), ((1, 3),))]
        gates += [(f"g{k}", BOTH, (f"g{k - 1}",) * 2, ((0, 2), (1, 4))) for k in range(1, 100)]
        delays = [[[2]]] + [[[0, 1], [3, 4, 1]]] * 99
        with few_calls(60):
            run = Run((("a",), tuple(gates[::-1]), (), ()), [Waveform(False, [0])], delays[::-1])
            self.assertIs(run.value("g99", 0), False)
            self.assertIs(run.value("g99", 500), True)
            self.assertTrue(50 < run.first_change("g99", -9, 999) <= run.last_change("g99", -9, 999) < 400)


class Changes(unittest.TestCase):
    def test_against_the_values(self):
        source = random.Random(4)
        for _ in range(60):
            parts = random_parts(source, gates=4, low=3, spread=4)
            run = Run(*parts)
            plain = Plain(*parts)
            for net in nets_of(parts[0]):
                times = [time for time in TIMES if plain.value(net, time) != plain.value(net, time - 1)]
                for low in range(-12, 24, 3):
                    for high in range(-12, 25, 4):
                        inside = [time for time in times if low < time <= high]
                        self.assertEqual(run.first_change(net, low, high), inside[0] if inside else None)
                        self.assertEqual(run.last_change(net, low, high), inside[-1] if inside else None)

    def test_the_ends(self):
        run = Run(CIRCUIT, WAVES, DELAYS)
        for low, high, first, last in ((-1, 0, 0, 0), (0, 5, None, None), (-5, -1, None, None), (-1, -1, None, None),
                                       (3, -3, None, None), (-10 ** 40, 10 ** 40, 0, 0)):
            self.assertEqual((run.first_change("a", low, high), run.last_change("a", low, high)), (first, last))
        self.assertEqual((run.first_change("g", -10 ** 40, 10 ** 40), run.last_change("g", 1, 10 ** 40)), (2, 15))
        self.assertEqual((run.first_change("g", 2, 3), run.last_change("g", -9, 3)), (None, 2))
        self.assertIsNone(run.first_change("one", -10 ** 40, 10 ** 40))
        self.assertIsNone(run.last_change("q", -10 ** 40, 10 ** 40))

    def test_changes_far_from_one_another(self):
        far = 10 ** 30
        circuit = (("a",), (("n", INVERTER, ("a",), ((5, far),)), ("m", INVERTER, ("n",), ((0, 9),))), (), ())
        run = Run(circuit, [Waveform(False, [0, far])], [[[7]], [[2, 3]]])
        self.assertEqual((run.first_change("m", 100, 9 * far), run.last_change("m", -far, far)), (far + 10, 10))
        self.assertEqual((run.first_change("a", 0, 9 * far), run.last_change("a", -far, far - 1)), (far, 0))
        self.assertEqual(run.bits("m", far + 6, far + 11), [True, True, True, True, False, False])


class Respecting(unittest.TestCase):
    def test_respects(self):
        run = Run(CIRCUIT, WAVES, DELAYS)
        always = (None, None)
        for vector, windows, wanted in (
                ((True, True, False), [(0, None), (None, 9), always], True),
                ((True, True, True), [(0, None), (None, 9), always], False),
                ((True, True, True), [(0, None), (None, 9), (3, 3)], True),
                ((True, True, False), [(-1, None), (None, 9), always], False),
                ((True, True, False), [(0, None), (None, 10), always], False),
                ((False, False, False), [(-9, 0), (9, 99), always], True),
                ((False, False, False), [(-9, 1), (9, 99), always], False),
                ((False, False, False), [(-9, 0), (8, 99), always], False)):
            self.assertIs(run.respects(vector, windows), wanted)

    def test_the_window_of_each_source_counts(self):
        circuit = (("a", "b"), (), (reg("q", "a"), reg("r", "a")), ())
        for k in range(4):
            waves = [Waveform(j == k, [4]) for j in range(4)]
            self.assertIs(Run(circuit, waves, []).respects((False,) * 4, [(0, 4)] * 4), False)
            windows = [(0, 4)] * k + [(2, 2)] + [(0, 4)] * (3 - k)
            self.assertIs(Run(circuit, waves, []).respects((False,) * 4, windows), True)
        self.assertIs(Run(((), (), (), ()), [], []).respects((), []), True)


class Errors(unittest.TestCase):
    def test_wrong_counts(self):
        for waves, delays in ((WAVES[:2], DELAYS), (WAVES + WAVES[:1], DELAYS), ([], DELAYS),
                              (WAVES, DELAYS[:2]), (WAVES, DELAYS + [[]]), (WAVES, []),
                              (WAVES, [[[1]], DELAYS[1], []]), (WAVES, [[[1], [4], [4]], DELAYS[1], []]),
                              (WAVES, [DELAYS[0], [], []]), (WAVES, [DELAYS[0], DELAYS[1], [[1]]]),
                              (WAVES, [[[], [4]], DELAYS[1], []]), (WAVES, [DELAYS[0], [[1, 3], []], []]),
                              # A wrong number comes before a delay out of its range.
                              (WAVES, [[[99], [4]], [[1, 3], []], []]), (WAVES[:1], [[[99], [4]], DELAYS[1], []]),
                              (WAVES, [[[99], [4]], DELAYS[1], [[]]])):
            self.assertRaises(WrongCount, Run, CIRCUIT, waves, delays)

    def test_delays_out_of_their_ranges(self):
        for rows in ([[3], [4]], [[-1], [4]], [[1], [2]], [[1], [6]], [[1], [4, 4, 6]], [[0, 3, 1], [4]],
                     [[1], [-10 ** 5000]]):
            self.assertRaises(BadRange, Run, CIRCUIT, WAVES, [rows, DELAYS[1], []])
        self.assertRaises(BadRange, Run, CIRCUIT, WAVES, [DELAYS[0], [[1], [7]], []])
        Run(CIRCUIT, WAVES, [[[0, 2], [3, 5]], [[1, 3], [2, 6]], []])

    def test_names_that_are_no_nets(self):
        run = Run(CIRCUIT, WAVES, DELAYS)
        for name in ("x", "", "gg"):
            self.assertRaises(UnknownName, run.value, name, 0)
            self.assertRaises(UnknownName, run.bits, name, 0, 3)
            self.assertRaises(UnknownName, run.bits, name, 3, 0)
            self.assertRaises(UnknownName, run.first_change, name, 0, 3)
            self.assertRaises(UnknownName, run.last_change, name, 3, 0)

    def test_lists_that_are_changed_afterwards(self):
        waves, delays = list(WAVES), copy.deepcopy(DELAYS)
        run = Run(CIRCUIT, waves, delays)
        bits = run.bits("h", -5, 30)
        run.bits("h", -5, 30).clear()
        waves[0] = Waveform(True, [])
        waves.clear()
        delays[1][0].append(2)
        delays[1][0][0] = 3
        delays[0][1].clear()
        delays.pop()
        self.assertEqual(run.bits("h", -5, 30), bits)
        self.assertIs(run.respects((True, True, False), [(0, None), (None, 9), (None, None)]), True)

    def test_what_is_handed_in_is_not_changed(self):
        waves, delays = list(WAVES), copy.deepcopy(DELAYS)
        run = Run(CIRCUIT, waves, delays)
        run.first_change("h", 0, 20)
        windows = [(0, None)] * 3
        run.respects((True,) * 3, windows)
        self.assertEqual((waves, delays, windows), (WAVES, DELAYS, [(0, None)] * 3))


if __name__ == "__main__":
    unittest.main()
