"""Points 8.1 and 8.3 to 8.5."""

import copy
import itertools
import random
import unittest

from signoff.arrivals import Arrivals
from signoff.clocked import Clocked
from signoff.errors import BadArgument, BadRange, Refused, WrongCount
from signoff.runs import Run
from signoff.settled import Settled
from tests.makers import (BOTH, BUFFER, EXOR, INVERTER, all_paths, calm_reg, clean_clocked, nets_of, plain_settle,
                          random_circuit, random_clocked, random_holds, reg, vectors)
from tests.plain import PlainSettled

CIRCUIT = (
    ("a", "b"),
    (("n", INVERTER, ("q",), ((1, 3),)), ("g", BOTH, ("n", "a"), ((2, 5), (0, 2)))),
    (reg("q", "g", (0, 2), (1, 2), 1, 1), reg("p", "b", (3, 4), (2, 9), 2, 0, True)),
    (("y", "g"),),
)
HOLDS = [(3, 1), (4, 4)]


class Parts(unittest.TestCase):
    def test_properties(self):
        clocked = Clocked(CIRCUIT, 20, HOLDS)
        self.assertEqual((clocked.period, clocked.circuit(), clocked.holds()), (20, CIRCUIT, HOLDS))
        self.assertIs(type(clocked.holds()), list)
        self.assertRaises(AttributeError, setattr, clocked, "period", 5)

    def test_windows(self):
        clocked = Clocked(CIRCUIT, 20, HOLDS)
        self.assertEqual(clocked.windows(0), [(3, 21), (4, 24), (4, 21), (13, 25)])
        self.assertEqual(clocked.windows(1), [(23, 41), (24, 44), (24, 41), (33, 45)])
        self.assertEqual(clocked.windows(7), [(143, 161), (144, 164), (144, 161), (153, 165)])
        self.assertEqual(Clocked(((), (), (), ()), 1, []).windows(3), [])
        # Windows may be empty.
        self.assertEqual(Clocked(CIRCUIT, 3, [(3, 0), (9, -9)]).windows(0), [(3, 3), (9, -6), (4, 4), (13, 8)])

    def test_windows_of_random_circuits(self):
        source = random.Random(1)
        for _ in range(50):
            clocked = random_clocked(source, inputs=2)
            period = clocked.period
            for cycle in (0, 1, 2, 5, 10 ** 20):
                wanted = [(cycle * period + since, (cycle + 1) * period + until) for since, until in clocked.holds()]
                for _, _, (low, high), (soon, late), _, _, _ in clocked.circuit()[2]:
                    wanted.append((cycle * period + high + late, (cycle + 1) * period + low + soon))
                self.assertEqual(clocked.windows(cycle), wanted)

    def test_needed(self):
        clocked = Clocked(CIRCUIT, 20, HOLDS)
        self.assertEqual((clocked.needed(0), clocked.needed(1)), ((19, 23), (21, 24)))
        circuit = ((), (), (reg("q", "q", (10 ** 30, 10 ** 30 + 1), (0, 9), 10 ** 31, 8),), ())
        self.assertEqual(Clocked(circuit, 5, []).needed(0), (5 + 10 ** 30 - 10 ** 31, 14 + 10 ** 30))

    def test_settled(self):
        clocked = Clocked(CIRCUIT, 20, HOLDS)
        settled = clocked.settled()
        self.assertIs(type(settled), Settled)
        other = Settled(CIRCUIT, clocked.windows(0))
        for net, time, vector in itertools.product(nets_of(CIRCUIT), range(0, 35), vectors(CIRCUIT)):
            self.assertIs(settled.is_settled(net, time, vector), other.is_settled(net, time, vector))


class Violations(unittest.TestCase):
    def plain_violations(self, clocked):
        """Asks for every vector and every needed time."""
        circuit = clocked.circuit()
        plains = [(vector, PlainSettled(circuit, clocked.windows(0), vector)) for vector in vectors(circuit)]
        found = []
        for r, one in enumerate(circuit[2]):
            first, last = clocked.needed(r)
            loose = [(time, vector) for time in range(first, last + 1) for vector, plain in plains
                     if not plain.is_settled(one[1], time)]
            if loose:
                found.append((r, *loose[0]))
        return found

    def check(self, clocked):
        wanted = self.plain_violations(clocked)
        self.assertEqual(clocked.violations(), wanted)
        self.assertIs(type(clocked.violations()), list)
        self.assertIs(clocked.is_clean(), not wanted)
        seen = {r: (time, vector) for r, time, vector in wanted}
        for r, one in enumerate(clocked.circuit()[2]):
            if r not in seen:
                self.assertRaises(Refused, clocked.witness, r)
                continue
            time, vector = seen[r]
            run = clocked.witness(r)
            self.assertIs(type(run), Run)
            self.assertIs(run.respects(vector, clocked.windows(0)), True)
            self.assertIs(run.value(one[1], time), not plain_settle(clocked.circuit(), vector)[one[1]])
        return len(seen)

    def test_random_circuits(self):
        source = random.Random(2)
        many = sum(self.check(random_clocked(source, gates=6)) for _ in range(150))
        self.assertGreater(many, 100)

    def test_clean_circuits_and_a_little_faster_ones(self):
        source = random.Random(3)
        for _ in range(30):
            clocked = clean_clocked(source, inputs=1, regs=3)
            self.assertEqual(self.check(clocked), 0)
            for less in range(1, 4):
                if clocked.period - less > 3:
                    self.check(Clocked(clocked.circuit(), clocked.period - less, clocked.holds()))

    def test_only_some_vectors(self):
        # The long path from b matters only while a is True.
        circuit = (("a", "b"), (("n", INVERTER, ("b",), ((5, 7),)), ("g", BOTH, ("a", "n"), ((1, 3), (1, 3)))),
                   (reg("q", "g", (0, 0), (30, 40), 2, 0),), ())
        self.assertEqual(Clocked(circuit, 12, [(0, 0), (0, 0)]).violations(), [])
        # Needed from 9 to 11, but b is known at g only from 10 on.
        self.assertEqual(Clocked(circuit, 11, [(0, 0), (0, 0)]).violations(), [(0, 9, (True, False, False))])

    def test_ends_of_the_needed_times(self):
        for setup, hold, wanted in ((0, 0, None), (4, 0, None), (5, 0, 15), (0, 4, None), (0, 5, 25), (5, 5, 15)):
            circuit = (("a",), (), (reg("q", "a", (0, 0), (9, 9), setup, hold),), ())
            found = Clocked(circuit, 20, [(16, 5)]).violations()
            self.assertEqual(found, [] if wanted is None else [(0, wanted, (False, False))])

    def test_wide_edges(self):
        circuit = (("a",), (), (reg("q", "a", (2, 6), (9, 9), 1, 1),), ())
        for holds, wanted in (((21, 8), []), ((22, 8), [(0, 21, (False, False))]),
                              ((21, 7), [(0, 27, (False, False))])):
            self.assertEqual(Clocked(circuit, 20, [holds]).violations(), wanted)

    def test_huge_needed_times(self):
        far = 10 ** 40
        circuit = (("a",), (("g", BUFFER, ("a",), ((far, 2 * far),)),), (reg("q", "g", (0, far), (9, far), far, 5),),
                   ())
        self.assertEqual(Clocked(circuit, 9 * far, [(far, 6)]).violations(), [])
        self.assertEqual(Clocked(circuit, 9 * far, [(far, 5)]).violations(), [(0, 10 * far + 5, (False, False))])

    def test_constants_and_no_registers(self):
        circuit = ((), (("one", (True,), (), ()),), (reg("q", "one"), reg("p", "q", out=(1, 9))), ())
        clocked = Clocked(circuit, 2, [])
        self.assertEqual([r for r, _, _ in clocked.violations()], [1])
        self.assertRaises(Refused, clocked.witness, 0)
        self.assertIs(Clocked((("a",), (), (), ()), 2, [(9, -9)]).is_clean(), True)


class Margins(unittest.TestCase):
    def plain_margins(self, clocked, r):
        circuit = clocked.circuit()
        windows = clocked.windows(0)
        lates, earlies = [], []
        for k, pins in all_paths(circuit, circuit[2][r][1]):
            lates.append(windows[k][0] + sum(circuit[1][g][3][pin][1] for g, pin in pins))
            earlies.append(windows[k][1] + sum(circuit[1][g][3][pin][0] for g, pin in pins))
        first, last = clocked.needed(r)
        return (first - max(lates), min(earlies) - last - 1) if lates else (None, None)

    def test_all_paths(self):
        source = random.Random(4)
        for _ in range(150):
            clocked = random_clocked(source, inputs=2, gates=6)
            for r in range(len(clocked.circuit()[2])):
                self.assertEqual(clocked.margins(r), self.plain_margins(clocked, r))

    def test_none(self):
        circuit = (("a",), (("one", (True,), (), ()), ("n", INVERTER, ("one",), ((1, 3),))),
                   (reg("q", "one"), reg("p", "n"), reg("r", "a", (0, 0), (1, 3), 2, 1)), ())
        clocked = Clocked(circuit, 10, [(3, 2)])
        self.assertEqual([clocked.margins(r) for r in range(3)], [(None, None), (None, None), (5, 0)])

    def test_no_negative_margin_means_clean(self):
        source = random.Random(5)
        clean = 0
        for _ in range(400):
            circuit = random_circuit(source, inputs=2, regs=2, gates=4)
            if source.random() < 0.8:
                regs = tuple(calm_reg(source, one[0], one[1]) for one in circuit[2])
                circuit = (circuit[0], circuit[1], regs, circuit[3])
            clocked = Clocked(circuit, source.randrange(10, 60), random_holds(source, circuit, 12))
            margins = [margin for r in range(2) for margin in clocked.margins(r) if margin is not None]
            if min(margins, default=0) >= 0:
                clean += 1
                self.assertIs(clocked.is_clean(), True)
        self.assertGreater(clean, 40)

    def test_clean_with_a_negative_margin(self):
        # The slow way from b is cut off by a, whatever a is.
        gates = (("s", BUFFER, ("b",), ((20, 22),)), ("x", BOTH, ("s", "a"), ((1, 3), (1, 3))),
                 ("n", INVERTER, ("a",), ((1, 3),)), ("g", BOTH, ("x", "n"), ((1, 3), (1, 3))))
        circuit = (("a", "b"), gates, (reg("q", "g"),), ())
        for period, wanted in ((6, []), (5, [(0, 5, (False, False, False))])):
            clocked = Clocked(circuit, period, [(0, 0), (0, 0)])
            self.assertEqual(clocked.margins(0), (period - 28, 0))
            self.assertEqual((clocked.violations(), clocked.is_clean()), (wanted, not wanted))

    def test_starts_are_the_windows(self):
        source = random.Random(6)
        for _ in range(30):
            clocked = random_clocked(source, gates=6)
            windows = clocked.windows(0)
            late = Arrivals(clocked.circuit(), [(since, since) for since, _ in windows])
            early = Arrivals(clocked.circuit(), [(until, until) for _, until in windows])
            for r, one in enumerate(clocked.circuit()[2]):
                first, last = clocked.needed(r)
                wanted = (None, None) if late.late(one[1]) is None else (
                    first - late.late(one[1]), early.early(one[1]) - last - 1)
                self.assertEqual(clocked.margins(r), wanted)


class Errors(unittest.TestCase):
    def test_counts(self):
        for holds in ([], HOLDS[:1], HOLDS + [(0, 0)]):
            self.assertRaises(WrongCount, Clocked, CIRCUIT, 20, holds)
        self.assertRaises(WrongCount, Clocked, ((), (), (), ()), 20, [(0, 0)])

    def test_period(self):
        for period in (0, -1, -10 ** 30):
            self.assertRaises(BadArgument, Clocked, CIRCUIT, period, HOLDS)
        self.assertEqual(Clocked(((), (), (), ()), 1, []).period, 1)

    def test_ranges(self):
        for holds in ([(3, 4), (0, 0)], [(0, 0), (-2, -1)]):
            self.assertRaises(BadRange, Clocked, CIRCUIT, 20, holds)
        Clocked(CIRCUIT, 20, [(3, 3), (-2, -2)])
        for low, high in ((0, 5), (3, 9), (10 ** 30, 10 ** 30 + 5)):
            circuit = ((), (), (reg("p", "p"), reg("q", "q", (low, high), (1, 2))), ())
            width = high - low
            Clocked(circuit, width + 1, [])
            for period in (width, width - 1, 2):
                self.assertRaises(BadRange, Clocked, circuit, period, [])

    def test_which_error_comes_first(self):
        circuit = (("a",), (), (reg("q", "a", (0, 9), (1, 2)),), ())
        self.assertRaises(WrongCount, Clocked, circuit, 0, [(0, 1), (0, 1)])
        self.assertRaises(WrongCount, Clocked, circuit, 5, [])
        self.assertRaises(BadArgument, Clocked, circuit, 0, [(0, 1)])
        self.assertRaises(BadArgument, Clocked, circuit, 0, [(0, 0)])
        self.assertRaises(BadRange, Clocked, circuit, 5, [(0, 1)])

    def test_methods(self):
        clocked = Clocked(CIRCUIT, 20, HOLDS)
        for cycle in (-1, -10 ** 30):
            self.assertRaises(BadArgument, clocked.windows, cycle)
        for r in (-1, -2, 2, 10 ** 30):
            self.assertRaises(BadArgument, clocked.needed, r)
            self.assertRaises(BadArgument, clocked.margins, r)
            self.assertRaises(BadArgument, clocked.witness, r)
        empty = Clocked(((), (), (), ()), 3, [])
        for r in (-1, 0):
            self.assertRaises(BadArgument, empty.needed, r)
            self.assertRaises(BadArgument, empty.margins, r)
            self.assertRaises(BadArgument, empty.witness, r)


class Copies(unittest.TestCase):
    def test_lists_that_are_changed_afterwards(self):
        holds = list(HOLDS)
        clocked = Clocked(CIRCUIT, 20, holds)
        wanted = copy.deepcopy((clocked.windows(0), clocked.violations(), clocked.margins(0)))
        holds[0] = (0, -20)
        holds.clear()
        clocked.holds().clear()
        clocked.windows(0).clear()
        clocked.violations().clear()
        self.assertEqual((clocked.windows(0), clocked.violations(), clocked.margins(0)), wanted)
        self.assertEqual(clocked.holds(), HOLDS)

    def test_the_order_of_questions_does_not_matter(self):
        source = random.Random(7)
        for _ in range(20):
            clocked = random_clocked(source, gates=6)
            other = Clocked(clocked.circuit(), clocked.period, clocked.holds())
            margins = [other.margins(r) for r in (1, 0)][::-1]
            self.assertIs(other.is_clean(), clocked.is_clean())
            self.assertEqual(other.violations(), clocked.violations())
            self.assertEqual(margins, [clocked.margins(r) for r in range(2)])


if __name__ == "__main__":
    unittest.main()
