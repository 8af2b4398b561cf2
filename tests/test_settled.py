"""Points 7.1 to 7.5."""

import copy
import itertools
import random
import unittest

from signoff.arrivals import Arrivals
from signoff.corners import within
from signoff.errors import Refused, UnknownName, WrongCount
from signoff.runs import Run
from signoff.settled import Settled
from signoff.waveforms import Waveform
from tests.helpers import few_calls
from tests.makers import (BOTH, BUFFER, EITHER, EXOR, INVERTER, nets_of, plain_settle, random_circuit, random_range,
                          reg, source_names, vectors)
from tests.plain import PlainSettled

TIMES = range(-9, 26)


def random_window(source, kind):
    since = source.randrange(-3, 4)
    return {"behind": (since, None), "before": (None, since), "always": (None, None),
            "between": (since, since + source.randrange(-1, 13))}[kind]


KINDS = (("behind",), ("before",), ("between",), ("behind", "before", "always", "between"), ("behind", "always"),
         ("before", "always"))


def cases(seed, many, kinds=KINDS, **sizes):
    """Circuits with windows."""
    source = random.Random(seed)
    sizes = {"inputs": 2, "regs": 1, "gates": 5, "low": 3, "spread": 4, **sizes}
    for at in range(many):
        circuit = random_circuit(source, **sizes)
        yield circuit, [random_window(source, source.choice(kinds[at % len(kinds)])) for _ in source_names(circuit)]


def random_run(source, circuit, windows, vector):
    """A run that respects the vector and the windows, and shows anything at other times."""
    waves = []
    for (since, until), bit in zip(windows, vector):
        bits = [bit if (since is None or since <= time) and (until is None or time < until) else source.random() < 0.5
                for time in range(-60, 60)]
        waves.append(Waveform.of_bits(-60, bits, before=bit if since is None else False,
                                      after=bit if until is None else True))
    delays = [[[source.randint(*pair) for _ in range(source.randrange(1, 9))] for pair in gate[3]]
              for gate in circuit[1]]
    return Run(circuit, waves, delays)


FALSE_PATH = (
    ("a", "b"),
    (("n", INVERTER, ("b",), ((5, 7),)), ("g", BOTH, ("a", "n"), ((1, 3), (1, 3)))),
    (),
    (),
)


class Rule(unittest.TestCase):
    def test_by_hand(self):
        settled = Settled(FALSE_PATH, [(0, None), (0, None)])
        for time, vector, wanted in ((3, (False, False), True), (2, (False, False), False), (10, (True, False), True),
                                     (9, (True, False), False), (3, (False, True), True), (9, (True, True), False),
                                     (10, (True, True), True), (7, (False, False), True)):
            self.assertIs(settled.is_settled("g", time, vector), wanted, (time, vector))
        # With b True, n is False from 7 on, so that g is settled from 10 on, also while a is unknown.
        settled = Settled(FALSE_PATH, [(99, None), (0, None)])
        self.assertIs(settled.is_settled("g", 10, (True, True)), True)
        self.assertIs(settled.is_settled("g", 10, (True, False)), False)

    def test_windows_of_sources(self):
        circuit = (("a",), (), (reg("q", "a"),), ())
        for window in ((0, None), (None, 4), (None, None), (-2, 3), (3, 3), (4, 2)):
            since, until = window
            settled = Settled(circuit, [window, window])
            for time, vector, net in itertools.product(TIMES, vectors(circuit), ("a", "q")):
                wanted = (since is None or since <= time) and (until is None or time < until)
                self.assertIs(settled.is_settled(net, time, vector), wanted)

    def test_every_vector_and_time(self):
        for circuit, windows in cases(1, 60):
            settled = Settled(circuit, windows)
            for vector in vectors(circuit):
                plain = PlainSettled(circuit, windows, vector)
                for net, time in itertools.product(nets_of(circuit), TIMES):
                    self.assertIs(settled.is_settled(net, time, vector), plain.is_settled(net, time))

    def test_gates_without_pins_and_constants(self):
        circuit = (("a",), (("one", (True,), (), ()), ("x", EXOR, ("a", "a"), ((1, 3), (1, 3))),
                            ("c", (True, True), ("a",), ((0, 2),)), ("e", EITHER, ("a", "one"), ((1, 3), (1, 3)))), (), ())
        settled = Settled(circuit, [(5, 5)])
        for net, wanted in (("one", True), ("x", False), ("c", True), ("e", True), ("a", False)):
            for vector, time in itertools.product(vectors(circuit), (-10 ** 30, 0, 5, 10 ** 30)):
                self.assertIs(settled.is_settled(net, time, vector), wanted)
            self.assertIs(settled.is_sure(net, 7), wanted)

    def test_no_run_strays_where_a_net_is_settled(self):
        source = random.Random(2)
        for circuit, windows in cases(3, 60):
            settled = Settled(circuit, windows)
            for vector in vectors(circuit):
                values = plain_settle(circuit, vector)
                run = random_run(source, circuit, windows, vector)
                self.assertIs(run.respects(vector, windows), True)
                for net in nets_of(circuit):
                    for time, bit in zip(TIMES, run.bits(net, TIMES[0], TIMES[-1])):
                        if bit != values[net]:
                            self.assertIs(settled.is_settled(net, time, vector), False)

    def test_narrower_ranges_and_wider_windows(self):
        source = random.Random(4)
        for circuit, windows in cases(5, 40):
            narrow = (circuit[0], tuple((*gate[:3], tuple(self.narrower(source, pair) for pair in gate[3]))
                                        for gate in circuit[1]), *circuit[2:])
            self.assertTrue(within(narrow, circuit))
            wide = [(None if since is None else since - source.randrange(3),
                     None if until is None else until + source.randrange(3)) for since, until in windows]
            settled = Settled(circuit, windows)
            for other in (Settled(narrow, windows), Settled(circuit, wide), Settled(narrow, wide)):
                for vector, net, time in itertools.product(vectors(circuit), nets_of(circuit), TIMES[::2]):
                    if settled.is_settled(net, time, vector):
                        self.assertIs(other.is_settled(net, time, vector), True)

    def narrower(self, source, pair):
        low = source.randint(pair[0], pair[1] - 2)
        return (low, source.randint(low + 2, pair[1]))

    def test_a_long_path(self):
        gates = [(f"g{k}", INVERTER, (f"g{k - 1}" if k else "a",), ((10 ** 9, 10 ** 9 + 7),)) for k in range(100)]
        with few_calls(60):
            settled = Settled((("a",), tuple(gates[::-1]), (), ()), [(0, None)])
            late = 100 * (10 ** 9 + 7)
            self.assertEqual((settled.late("g99"), settled.late_for("g99", (True,))), (late, late))
            run = settled.witness("g99", late - 1, (True,))
            self.assertEqual(run.value("g99", late - 1), False)
            self.assertEqual(len(settled.trail("g99", late - 1, (True,))), 101)


class AllVectors(unittest.TestCase):
    def test_against_every_vector(self):
        for circuit, windows in cases(6, 60):
            settled = Settled(circuit, windows)
            plains = [(vector, PlainSettled(circuit, windows, vector)) for vector in vectors(circuit)]
            for net, time in itertools.product(nets_of(circuit), TIMES):
                loose = [vector for vector, plain in plains if not plain.is_settled(net, time)]
                self.assertIs(settled.is_sure(net, time), not loose)
                self.assertEqual(settled.loose_vector(net, time), min(loose, default=None))
                self.assertEqual(settled.count_loose(net, time), len(loose))

    def test_by_hand(self):
        settled = Settled(FALSE_PATH, [(0, None), (0, None)])
        self.assertEqual([settled.loose_vector("g", time) for time in (-1, 2, 3, 9, 10)],
                         [(False, False), (False, False), (True, False), (True, False), None])
        self.assertEqual([settled.count_loose("g", time) for time in (-1, 2, 3, 9, 10)], [4, 4, 2, 2, 0])
        self.assertEqual([settled.is_sure("g", time) for time in (2, 3, 9, 10)], [False, False, False, True])

    def test_no_sources(self):
        circuit = ((), (("one", (True,), (), ()), ("n", INVERTER, ("one",), ((1, 3),))), (), ())
        settled = Settled(circuit, [])
        self.assertEqual((settled.is_sure("n", 0), settled.loose_vector("n", 0), settled.count_loose("n", 0),
                          settled.late("n"), settled.early("n"), settled.late_for("n", ())),
                         (True, None, 0, None, None, None))

    def test_many_sources(self):
        # Bit by bit there would be 2 ** 40 vectors.
        inputs = tuple(f"a{k}" for k in range(40))
        gates = [("x0", BUFFER, ("a0",), ((1, 3),))]
        gates += [(f"x{k}", EXOR, (f"x{k - 1}", f"a{k}"), ((1, 3), (1, 3))) for k in range(1, 40)]
        settled = Settled((inputs, tuple(gates), (), ()), [(0, None)] * 40)
        self.assertEqual((settled.late("x39"), settled.count_loose("x39", 119)), (120, 2 ** 40))
        self.assertEqual(settled.loose_vector("x39", 119), (False,) * 40)
        run = settled.witness("x39", 119, (True,) * 40)
        self.assertIs(run.value("x39", 119), True)


class Ends(unittest.TestCase):
    SPAN = range(-9, 60)

    def check_late(self, circuit, windows):
        settled = Settled(circuit, windows)
        for net in nets_of(circuit):
            latest = None
            for vector in vectors(circuit):
                plain = PlainSettled(circuit, windows, vector)
                loose = [time for time in self.SPAN if not plain.is_settled(net, time)]
                late = loose[-1] + 1 if loose else None
                self.assertEqual(settled.late_for(net, vector), late)
                latest = late if latest is None or (late is not None and late > latest) else latest
            self.assertEqual(settled.late(net), latest)

    def check_early(self, circuit, windows):
        settled = Settled(circuit, windows)
        for net in nets_of(circuit):
            earliest = None
            for vector in vectors(circuit):
                plain = PlainSettled(circuit, windows, vector)
                early = min((time for time in self.SPAN if not plain.is_settled(net, time)), default=None)
                self.assertEqual(settled.early_for(net, vector), early)
                earliest = early if earliest is None or (early is not None and early < earliest) else earliest
            self.assertEqual(settled.early(net), earliest)

    def test_late(self):
        for circuit, windows in cases(7, 40, [("behind",), ("behind", "always"), ("always",)]):
            self.check_late(circuit, windows)

    def test_early(self):
        for circuit, windows in cases(8, 40, [("before",), ("before", "always"), ("always",)]):
            self.check_early(circuit, windows)

    def test_none(self):
        settled = Settled(FALSE_PATH, [(None, None), (None, None)])
        for net in nets_of(FALSE_PATH):
            self.assertIsNone(settled.late(net))
            self.assertIsNone(settled.early(net))
            self.assertIsNone(settled.late_for(net, (True, False)))
            self.assertIsNone(settled.early_for(net, (True, False)))
        settled = Settled(FALSE_PATH, [(None, None), (3, None)])
        self.assertEqual([settled.late_for("g", vector) for vector in vectors(FALSE_PATH)], [None, None, 13, 13])
        self.assertEqual((settled.late("a"), settled.late("b"), settled.late("n"), settled.late("g")),
                         (None, 3, 10, 13))

    def test_refused(self):
        for windows in ([(0, 5), (0, None)], [(0, None), (None, 5)], [(0, 0), (0, None)], [(5, 5), (9, 1)]):
            settled = Settled(FALSE_PATH, windows)
            for net in nets_of(FALSE_PATH):
                self.assertRaises(Refused, settled.late, net)
                self.assertRaises(Refused, settled.late_for, net, (True, True))
        for windows in ([(0, 5), (None, 0)], [(None, 5), (0, None)], [(None, 5), (7, 5)]):
            settled = Settled(FALSE_PATH, windows)
            for net in nets_of(FALSE_PATH):
                self.assertRaises(Refused, settled.early, net)
                self.assertRaises(Refused, settled.early_for, net, (True, True))
        settled = Settled(FALSE_PATH, [(0, None), (None, None)])
        self.assertEqual(settled.late("g"), 3)
        self.assertRaises(Refused, settled.early, "g")
        # Nothing can be seen of the windows at a gate without pins; they are looked at all the same.
        circuit = (("a",), (("one", (True,), (), ()),), (), ())
        self.assertRaises(Refused, Settled(circuit, [(0, 9)]).late, "one")
        self.assertRaises(Refused, Settled(circuit, [(0, 9)]).early, "one")

    def test_arrivals_are_not_better(self):
        for circuit, windows in cases(9, 60, [("behind",)], gates=7):
            settled = Settled(circuit, windows)
            arrivals = Arrivals(circuit, [(since, since) for since, _ in windows])
            for net in nets_of(circuit):
                if arrivals.late(net) is None:
                    self.assertIsNone(settled.late(net))
                elif settled.late(net) is not None:
                    self.assertLessEqual(settled.late(net), arrivals.late(net))
        for circuit, windows in cases(10, 60, [("before",)], gates=7):
            settled = Settled(circuit, windows)
            arrivals = Arrivals(circuit, [(until, until) for _, until in windows])
            for net in nets_of(circuit):
                if settled.early(net) is not None:
                    self.assertGreaterEqual(settled.early(net), arrivals.early(net))


class Witnesses(unittest.TestCase):
    def check_witness(self, settled, circuit, windows, net, time, vector):
        run = settled.witness(net, time, vector)
        self.assertIs(type(run), Run)
        self.assertIs(run.respects(vector, windows), True)
        self.assertIs(run.value(net, time), not plain_settle(circuit, vector)[net])

    def check_trail(self, settled, circuit, net, time, vector):
        trail = settled.trail(net, time, vector)
        gates = {gate[0]: gate for gate in circuit[1]}
        self.assertIs(type(trail), list)
        self.assertIn(trail[0][0], source_names(circuit))
        self.assertEqual(trail[-1], (net, time))
        for pair in trail:
            self.assertIs(settled.is_settled(*pair, vector), False)
        for (before, first), (after, second) in zip(trail, trail[1:]):
            self.assertTrue(any(other == before and low <= second - first <= high
                                for other, (low, high) in zip(gates[after][2], gates[after][3])))

    def test_wherever_a_net_is_loose(self):
        found = 0
        for circuit, windows in cases(11, 40):
            settled = Settled(circuit, windows)
            for vector in vectors(circuit):
                plain = PlainSettled(circuit, windows, vector)
                for net, time in itertools.product(nets_of(circuit), TIMES[::2]):
                    if plain.is_settled(net, time):
                        self.assertRaises(Refused, settled.witness, net, time, vector)
                        self.assertRaises(Refused, settled.trail, net, time, vector)
                    else:
                        found += 1
                        self.check_witness(settled, circuit, windows, net, time, vector)
                        self.check_trail(settled, circuit, net, time, vector)
        self.assertGreater(found, 2000)

    def test_the_narrowest_ranges(self):
        # One of three delays must see each value, again and again.
        for circuit, windows in cases(12, 60, gates=8, low=1, spread=2, pins=2):
            settled = Settled(circuit, windows)
            vector = vectors(circuit)[len(windows) % 3]
            plain = PlainSettled(circuit, windows, vector)
            for net, time in itertools.product(nets_of(circuit), TIMES):
                if not plain.is_settled(net, time):
                    self.check_witness(settled, circuit, windows, net, time, vector)
                    self.check_trail(settled, circuit, net, time, vector)

    def test_loose_stretches_between_settled_ones(self):
        # g is settled by a at first and by b at last; what reads it must see both values of it.
        for first, last in itertools.product(range(4), (3, 4, 5, 6, 7)):
            for low in (0, 1):
                circuit = (("a", "b"), (
                    ("g", EITHER, ("a", "b"), ((1, 3), (1, 3))), ("h", BUFFER, ("g",), ((low, low + 2),)),
                    ("x", EXOR, ("h", "g"), ((2, 4), (1, 4))), ("y", EXOR, ("g", "g"), ((0, 2), (low, low + 2))),
                    ("z", BOTH, ("x", "y"), ((0, 2), (1, 3)))), (), ())
                windows = [(None, first), (last, None)]
                settled = Settled(circuit, windows)
                for net, time in itertools.product(nets_of(circuit)[2:], range(-1, 24)):
                    for vector in ((True, True), (False, True)):
                        if not settled.is_settled(net, time, vector):
                            self.check_witness(settled, circuit, windows, net, time, vector)
                            self.check_trail(settled, circuit, net, time, vector)

    def test_one_net_at_two_pins(self):
        gates = [("g0", EXOR, ("a", "a"), ((0, 2), (0, 2)))]
        gates += [(f"g{k}", EXOR, (f"g{k - 1}",) * 2, ((1, 3), (0, 4))) for k in range(1, 12)]
        circuit = (("a",), tuple(gates), (), ())
        for window in ((0, None), (None, 0), (0, 40), (0, 1), (7, 7)):
            settled = Settled(circuit, [window])
            for vector, time in itertools.product(vectors(circuit), range(-2, 50, 7)):
                if not settled.is_settled("g11", time, vector):
                    self.check_witness(settled, circuit, [window], "g11", time, vector)
                    self.check_trail(settled, circuit, "g11", time, vector)

    def test_large_delays(self):
        source = random.Random(13)
        for _ in range(20):
            plain = random_circuit(source, gates=7)
            circuit = (plain[0], tuple((*gate[:3], tuple(random_range(source, 10 ** 6, 10 ** 6) for _ in gate[3]))
                                       for gate in plain[1]), *plain[2:])
            windows = [(0, None)] * len(source_names(circuit))
            settled = Settled(circuit, windows)
            for net in nets_of(circuit):
                late = settled.late(net)
                if late is not None:
                    vector = settled.loose_vector(net, late - 1)
                    self.check_witness(settled, circuit, windows, net, late - 1, vector)
                    self.check_trail(settled, circuit, net, late - 1, vector)

    def test_a_source(self):
        circuit = (("a",), (), (reg("q", "a"),), ())
        settled = Settled(circuit, [(0, 4), (2, 2)])
        for net, time in (("a", -1), ("a", 4), ("a", -10 ** 30), ("q", 2), ("q", 10 ** 30)):
            for vector in vectors(circuit):
                self.check_witness(settled, circuit, [(0, 4), (2, 2)], net, time, vector)
                self.assertEqual(settled.trail(net, time, vector), [(net, time)])
        self.assertRaises(Refused, settled.witness, "a", 0, (True, True))


class Errors(unittest.TestCase):
    def test_windows(self):
        for windows in ([], [(0, None)], [(0, None)] * 3):
            self.assertRaises(WrongCount, Settled, FALSE_PATH, windows)
        self.assertRaises(WrongCount, Settled, ((), (), (), ()), [(0, 0)])

    def test_which_error_comes_first(self):
        for windows in ([(0, 5), (0, 5)], [(None, None), (None, None)]):
            settled = Settled(FALSE_PATH, windows)
            for vector in ((), (True,), (True,) * 3):
                for net in ("g", "a", "x"):
                    self.assertRaises(WrongCount, settled.is_settled, net, 2, vector)
                    self.assertRaises(WrongCount, settled.late_for, net, vector)
                    self.assertRaises(WrongCount, settled.early_for, net, vector)
                    self.assertRaises(WrongCount, settled.witness, net, 2, vector)
                    self.assertRaises(WrongCount, settled.trail, net, 2, vector)
            vector = (True, False)
            for net in ("x", "", "gg"):
                self.assertRaises(UnknownName, settled.is_settled, net, 2, vector)
                self.assertRaises(UnknownName, settled.late_for, net, vector)
                self.assertRaises(UnknownName, settled.early_for, net, vector)
                self.assertRaises(UnknownName, settled.witness, net, 2, vector)
                self.assertRaises(UnknownName, settled.trail, net, 2, vector)
                self.assertRaises(UnknownName, settled.is_sure, net, 2)
                self.assertRaises(UnknownName, settled.loose_vector, net, 2)
                self.assertRaises(UnknownName, settled.count_loose, net, 2)
                self.assertRaises(UnknownName, settled.late, net)
                self.assertRaises(UnknownName, settled.early, net)

    def test_lists_that_are_changed_afterwards(self):
        windows = [(0, None), (0, None)]
        kept = copy.deepcopy(FALSE_PATH)
        settled = Settled(FALSE_PATH, windows)
        windows[0] = (None, None)
        windows.clear()
        self.assertEqual((settled.late("g"), settled.late_for("g", (False, False))), (10, 3))
        settled.trail("g", 2, (False, False)).clear()
        settled.witness("g", 2, (False, False))
        self.assertEqual((settled.late("g"), FALSE_PATH), (10, kept))

    def test_the_order_of_questions_does_not_matter(self):
        source = random.Random(14)
        for circuit, windows in cases(15, 15, gates=6):
            questions = list(itertools.product(nets_of(circuit), TIMES[::5]))
            wanted = {pair: Settled(circuit, windows).loose_vector(*pair) for pair in questions}
            for _ in range(3):
                settled = Settled(circuit, windows)
                source.shuffle(questions)
                for pair in questions:
                    self.assertEqual(settled.loose_vector(*pair), wanted[pair])

    def test_more_vectors_than_are_remembered(self):
        for circuit, windows in cases(16, 4, inputs=6, gates=6):
            settled = Settled(circuit, windows)
            times = [-1, 2, 5]
            loose = {time: [0] * 7 for time in times}
            for at, net in enumerate(nets_of(circuit)[:7]):
                for time, vector in itertools.product(times, vectors(circuit)):
                    is_loose = not settled.is_settled(net, time, vector)
                    self.assertIs(is_loose, not PlainSettled(circuit, windows, vector).is_settled(net, time))
                    loose[time][at] += is_loose
                self.assertEqual([loose[time][at] for time in times],
                                 [settled.count_loose(net, time) for time in times])


if __name__ == "__main__":
    unittest.main()
