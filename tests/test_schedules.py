"""Points 9.1 to 9.5."""

import copy
import itertools
import random
import unittest

from signoff.clocked import Clocked
from signoff.differences import least_values
from signoff.errors import BadArgument, BadRange, WrongCount
from signoff.schedules import conflict, constraints, find_shifts, least_period, shifted
from tests.makers import (BUFFER, EXOR, INVERTER, all_paths, calm_reg, random_circuit, random_clocked, random_holds,
                          reg, source_names)

CIRCUIT = (
    ("a",),
    (("g", BUFFER, ("p",), ((10, 12),)),),
    (reg("p", "a", (0, 0), (1, 2)), reg("q", "g", (2, 3), (1, 2))),
    (),
)


def plain_constraints(clocked):
    """The constraints by all paths."""
    circuit = clocked.circuit()
    windows = clocked.windows(0)
    setups, holds = [], []
    for i, r in itertools.product(range(len(source_names(circuit))), range(len(circuit[2]))):
        _, net, (low, high), _, setup, hold, _ = circuit[2][r]
        ways = [[circuit[1][g][3][pin] for g, pin in pins] for k, pins in all_paths(circuit, net) if k == i]
        if ways:
            longest = max(sum(pair[1] for pair in way) for way in ways)
            shortest = min(sum(pair[0] for pair in way) for way in ways)
            setups.append(("setup", i, r, clocked.period + low - setup - windows[i][0] - longest))
            holds.append(("hold", i, r, windows[i][1] + shortest - clocked.period - high - hold - 1))
    return setups + holds + [("floor", r) for r in range(len(circuit[2]))]


def ends_of(clocked, row):
    """What the constraint says: x minus y is at most m, where the shifts of inputs are called 0."""
    if row[0] == "floor":
        return "0", row[1], 0
    many = len(clocked.circuit()[0])
    root = "0" if row[1] < many else row[1] - many
    return (root, row[2], row[3]) if row[0] == "setup" else (row[2], root, row[3])


def raised_shifts(clocked):
    """Raises a shift as long as a constraint is broken; None if that would never end."""
    values = {"0": 0, **{r: 0 for r in range(len(clocked.circuit()[2]))}}
    rows = [ends_of(clocked, row) for row in plain_constraints(clocked)]
    most = sum(abs(m) for _, _, m in rows)
    while True:
        broken = [(x, y, m) for x, y, m in rows if values[x] - values[y] > m]
        if not broken:
            return [values[r] for r in range(len(clocked.circuit()[2]))]
        x, y, m = broken[0]
        values[y] = values[x] - m
        if values["0"] > 0 or values[y] > most:
            return None


def calm_clocked(source):
    """A clocked circuit whose hold constraints can often be satisfied."""
    inputs, gates, regs, outputs = random_circuit(source, inputs=1, regs=3, gates=5, low=6, spread=6)
    regs = [calm_reg(source, one[0], one[1]) for one in regs]
    later = source.randrange(12)
    circuit = (inputs, gates, tuple((*one[:3], (one[3][0] + later, one[3][1] + later), *one[4:]) for one in regs),
               outputs)
    holds = [(since + later, until + later) for since, until in random_holds(source, circuit, 9)]
    return Clocked(circuit, source.randrange(8, 50), holds)


def cases(seed, many):
    source = random.Random(seed)
    for at in range(many):
        yield random_clocked(source, inputs=2, regs=3, gates=5) if at % 3 == 0 else calm_clocked(source)


class Shifted(unittest.TestCase):
    def test_edges(self):
        clocked = Clocked(CIRCUIT, 9, [(3, 1)])
        found = shifted(clocked, [0, 5])
        self.assertIs(type(found), Clocked)
        self.assertEqual(found.circuit(), (*CIRCUIT[:2], (CIRCUIT[2][0], ("q", "g", (7, 8), *CIRCUIT[2][1][3:])), ()))
        self.assertEqual((found.period, found.holds()), (9, [(3, 1)]))
        self.assertEqual(clocked.circuit(), CIRCUIT)
        self.assertEqual(shifted(clocked, [0, 0]).circuit(), CIRCUIT)
        self.assertEqual(shifted(clocked, [10 ** 30, 1]).windows(0)[1], (10 ** 30 + 2, 10 ** 30 + 10))
        self.assertEqual(shifted(Clocked(((), (), (), ()), 1, []), []).period, 1)

    def test_errors(self):
        clocked = Clocked(CIRCUIT, 9, [(3, 1)])
        for shifts in ([], [0], [0, 0, 0]):
            self.assertRaises(WrongCount, shifted, clocked, shifts)
        for shifts in ([0, -1], [-1, 0], [-10 ** 30, 5]):
            self.assertRaises(BadArgument, shifted, clocked, shifts)
        for shifts in ([-1], [0, 0, -1]):
            self.assertRaises(WrongCount, shifted, clocked, shifts)


class Constraints(unittest.TestCase):
    def test_by_hand(self):
        self.assertEqual(constraints(Clocked(CIRCUIT, 9, [(3, 1)])), [
            ("setup", 0, 0, 6), ("setup", 1, 1, 9 + 2 - 0 - 2 - 12), ("hold", 0, 0, 10 + 0 - 9 - 0 - 0 - 1),
            ("hold", 1, 1, 10 + 10 - 9 - 3 - 0 - 1), ("floor", 0), ("floor", 1)])

    def test_a_register_that_stores_itself(self):
        circuit = ((), (("n", INVERTER, ("q",), ((3, 5),))), (reg("q", "q", (1, 3), (4, 6), 2, 1),), ())
        circuit = ((), (("n", INVERTER, ("q",), ((3, 5),)),), *circuit[2:])
        self.assertEqual(constraints(Clocked(circuit, 20, [])),
                         [("setup", 0, 0, 20 + 1 - 2 - 9), ("hold", 0, 0, 25 - 20 - 3 - 1 - 1), ("floor", 0)])

    def test_nets_that_no_source_reaches(self):
        circuit = (("a",), (("one", (True,), (), ()), ("n", INVERTER, ("one",), ((1, 3),))),
                   (reg("q", "one"), reg("p", "n")), ())
        self.assertEqual(constraints(Clocked(circuit, 9, [(0, 0)])), [("floor", 0), ("floor", 1)])
        self.assertEqual(find_shifts(Clocked(circuit, 9, [(0, 0)])), [0, 0])

    def test_no_registers(self):
        clocked = Clocked((("a",), (("n", INVERTER, ("a",), ((1, 3),)),), (), ()), 9, [(0, 0)])
        self.assertEqual((constraints(clocked), find_shifts(clocked), conflict(clocked)), ([], [], None))

    def test_all_paths(self):
        for clocked in cases(1, 150):
            self.assertEqual(constraints(clocked), plain_constraints(clocked))

    def test_many_paths(self):
        gates = [("g0", EXOR, ("a", "q"), ((1, 3), (2, 5)))]
        gates += [(f"g{k}", EXOR, (f"g{k - 1}",) * 2, ((1, 3), (2, 5))) for k in range(1, 100)]
        clocked = Clocked((("a",), tuple(gates), (reg("q", "g99", (0, 0), (1, 2)),), ()), 9, [(0, 0)])
        self.assertEqual(constraints(clocked), [("setup", 0, 0, 9 - 3 - 99 * 5), ("setup", 1, 0, 9 - 2 - 500),
                                                ("hold", 0, 0, 100 - 1), ("hold", 1, 0, 1 + 101 - 1), ("floor", 0)])

    def test_satisfied_exactly_if_no_margin_is_negative(self):
        source = random.Random(2)
        counts = [0, 0]
        for clocked in cases(3, 150):
            least = find_shifts(clocked)
            drawn = [[source.randrange(12) for _ in range(3)] for _ in range(4)]
            for shifts in drawn + ([] if least is None else [least, [one + 1 for one in least]]):
                values = {"0": 0, **dict(enumerate(shifts))}
                rows = [ends_of(clocked, row) for row in constraints(clocked)]
                wanted = all(values[x] - values[y] <= m for x, y, m in rows)
                later = shifted(clocked, shifts)
                margins = [margin for r in range(3) for margin in later.margins(r) if margin is not None]
                self.assertIs(min(margins, default=0) >= 0, wanted)
                if wanted:
                    self.assertIs(later.is_clean(), True)
                counts[wanted] += 1
        self.assertGreater(min(counts), 50)


class FindShifts(unittest.TestCase):
    def test_raising(self):
        found = []
        for clocked in cases(4, 1000):
            wanted = raised_shifts(clocked)
            self.assertEqual(find_shifts(clocked), wanted)
            found.append(wanted)
        self.assertGreater(found.count(None), 50)
        self.assertGreater(sum(shifts is not None and max(shifts) > 0 for shifts in found), 50)

    def test_least(self):
        # Trying all shifts, each one found is at most as great as every one that satisfies all.
        for clocked in cases(5, 40):
            rows = [ends_of(clocked, row) for row in constraints(clocked)]
            good = [shifts for shifts in itertools.product(range(9), repeat=3)
                    if all({"0": 0, **dict(enumerate(shifts))}[x] - {"0": 0, **dict(enumerate(shifts))}[y] <= m
                           for x, y, m in rows)]
            least = find_shifts(clocked)
            if good:
                self.assertEqual(least, [min(column) for column in zip(*good)])
            elif least is not None:
                self.assertGreater(max(least), 8)

    def test_new_lists(self):
        clocked = Clocked(CIRCUIT, 9, [(3, 1)])
        find_shifts(clocked).clear()
        constraints(clocked).clear()
        self.assertEqual((find_shifts(clocked), len(constraints(clocked))), ([0, 3], 6))
        self.assertEqual(clocked.circuit(), CIRCUIT)


class Conflict(unittest.TestCase):
    def check(self, clocked):
        found = conflict(clocked)
        if found is None:
            self.assertIsNotNone(raised_shifts(clocked))
            return 0
        self.assertIsNone(raised_shifts(clocked))
        self.assertIs(type(found), list)
        ends = [ends_of(clocked, row) for row in found]
        for row in found:
            self.assertIn(row, constraints(clocked))
        for (_, y, _), (x, _, _) in zip(ends, ends[1:] + ends[:1]):
            self.assertEqual(x, y)
        self.assertLess(sum(m for _, _, m in ends), 0)
        return len(found)

    def test_random_circuits(self):
        lengths = [self.check(clocked) for clocked in cases(6, 400)]
        self.assertGreater(lengths.count(0), 50)
        self.assertGreater(len({*lengths}), 3)

    def test_one_constraint_alone(self):
        circuit = ((), (("n", INVERTER, ("q",), ((30, 32),)),), (reg("q", "n"),), ())
        clocked = Clocked(circuit, 9, [])
        self.assertEqual(conflict(clocked), [("setup", 0, 0, 9 - 3 - 32)])
        self.assertIsNone(find_shifts(clocked))

    def test_against_a_floor(self):
        # The shift would have to be at most -8.
        circuit = (("a",), (), (reg("q", "a", (5, 5), (1, 2), 0, 2),), ())
        self.assertEqual(sorted(conflict(Clocked(circuit, 9, [(0, 0)]))), [("floor", 0), ("hold", 0, 0, -8)])

    def test_long_closed_rows(self):
        # Each register must come at least 5 later than the one before, in a ring.
        many = 30
        regs = [reg(f"r{k}", f"r{k - 1 if k else many - 1}", (0, 0), (14, 15), 0, 0) for k in range(many)]
        self.assertGreaterEqual(self.check(Clocked(((), (), tuple(regs), ()), 10, [])), many)
        self.assertEqual(self.check(Clocked(((), (), tuple(regs), ()), 15, [])), 0)


class Differences(unittest.TestCase):
    def test_random_systems(self):
        source = random.Random(7)
        kinds = [0, 0]
        for _ in range(3000):
            many = source.randrange(1, 6)
            rows = [(0, y, 0) for y in range(1, many)]
            rows += [(source.randrange(many), source.randrange(many), source.randrange(-3, 6))
                     for _ in range(source.randrange(8))]
            source.shuffle(rows)
            values, found = least_values(many, rows)
            kinds[values is None] += 1
            if values is None:
                for k, following in zip(found, found[1:] + found[:1]):
                    self.assertEqual(rows[k][1], rows[following][0])
                self.assertLess(sum(rows[k][2] for k in found), 0)
                self.assertEqual(len(set(found)), len(found))
            else:
                self.assertIsNone(found)
                self.assertEqual(values[0], 0)
                self.assertTrue(all(values[x] - values[y] <= m for x, y, m in rows))
                # Nothing is greater than it must be: each value above 0 is held up by a row.
                for y in range(1, many):
                    self.assertTrue(values[y] == 0 or any(values[x] - m == values[y] for x, z, m in rows if z == y))
        self.assertGreater(min(kinds), 500)


class LeastPeriod(unittest.TestCase):
    def plain(self, circuit, holds, most):
        for period in range(1, most):
            try:
                clocked = Clocked(circuit, period, holds)
            except BadRange:
                continue
            shifts = raised_shifts(clocked)
            if shifts is not None:
                return period, shifts
        return None

    def test_trying_the_periods(self):
        found = []
        for clocked in cases(8, 250):
            circuit, holds = clocked.circuit(), clocked.holds()
            wanted = self.plain(circuit, holds, 120)
            self.assertEqual(least_period(circuit, holds), wanted)
            found.append(wanted)
        self.assertGreater(found.count(None), 50)
        self.assertGreater(sum(pair is not None and pair[0] > 8 for pair in found), 50)

    def test_hold_and_floor_contradict_each_other(self):
        circuit = (("a",), (), (reg("q", "a", (5, 5), (1, 2), 0, 0),), ())
        self.assertIsNone(least_period(circuit, [(0, 0)]))
        self.assertIsNone(least_period(circuit, [(9, 5)]))
        self.assertEqual(least_period(circuit, [(9, 6)]), (4, [0]))
        self.assertEqual(least_period(circuit, [(10 ** 40, 6)]), (10 ** 40 - 5, [0]))

    def test_wide_edges(self):
        circuit = ((), (), (reg("q", "q", (0, 30), (31, 32)),), ())
        self.assertEqual(least_period(circuit, []), (32 + 30, [0]))
        circuit = ((), (("one", (True,), (), ()),), (reg("q", "one", (0, 30), (31, 32)),), ())
        self.assertEqual(least_period(circuit, []), (31, [0]))
        self.assertEqual(least_period(((), (), (), ()), []), (1, []))
        self.assertEqual(least_period((("a",), (), (), ()), [(99, 0)]), (1, []))

    def test_shifts_make_it_shorter(self):
        # The shift of q is at most 7, so that the period cannot be less than 5.
        self.assertEqual(least_period(CIRCUIT, [(3, 1)]), (5, [0, 7]))
        gates = (("g", BUFFER, ("p",), ((20, 22),)), ("h", BUFFER, ("q",), ((0, 2),)))
        circuit = ((), gates, (reg("p", "h", (0, 0), (1, 2)), reg("q", "g", (0, 0), (1, 2))), ())
        period, shifts = least_period(circuit, [])
        self.assertEqual((period, shifts), self.plain(circuit, [], 60))
        self.assertLess(period, 24)

    def test_errors(self):
        for holds in ([], [(0, 0), (0, 0)]):
            self.assertRaises(WrongCount, least_period, CIRCUIT, holds)
        self.assertRaises(BadRange, least_period, CIRCUIT, [(0, 1)])
        self.assertRaises(WrongCount, least_period, CIRCUIT, [(0, 1), (0, 1)])
        # The errors come also where there is no period.
        circuit = (("a",), (), (reg("q", "a", (5, 5), (1, 2)),), ())
        self.assertRaises(BadRange, least_period, circuit, [(0, 1)])
        wide = (("a",), (), (reg("q", "a", (0, 50), (1, 2)),), ())
        self.assertRaises(BadRange, least_period, wide, [(0, 1)])
        self.assertRaises(WrongCount, least_period, wide, [])

    def test_arguments_stay(self):
        holds = [(3, 1)]
        circuit = copy.deepcopy(CIRCUIT)
        least_period(circuit, holds)[1].clear()
        self.assertEqual((holds, circuit), ([(3, 1)], CIRCUIT))


if __name__ == "__main__":
    unittest.main()
