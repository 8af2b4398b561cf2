"""Points 6.1 to 6.5."""

import copy
import itertools
import random
import unittest

from signoff.arrivals import Arrivals
from signoff.circuits import check_circuit
from signoff.errors import BadArgument, BadRange, UnknownName, WrongCount
from signoff.runs import Run
from signoff.waveforms import Waveform
from tests.helpers import few_calls
from tests.makers import BOTH, BUFFER, EITHER, all_paths, nets_of, random_circuit, random_range, reg, source_names


def ends(circuit, starts, path, end):
    """The early (end 0) or late (end 1) arrival of a path."""
    k, pins = path
    return starts[k][end] + sum(circuit[1][g][3][pin][end] for g, pin in pins)


def in_worst_order(circuit, starts, net):
    return sorted(all_paths(circuit, net), key=lambda path: (-ends(circuit, starts, path, 1), path))


def random_starts(source, circuit):
    starts = []
    for _ in source_names(circuit):
        early = source.randrange(-4, 4)
        starts.append((early, early + source.randrange(4)))
    return starts


def some_circuits(seed, many, **sizes):
    source = random.Random(seed)
    for _ in range(many):
        circuit = random_circuit(source, **sizes)
        yield circuit, random_starts(source, circuit)


def answers(arrivals, net, limits):
    return (arrivals.early(net), arrivals.late(net), arrivals.worst_paths(net, 4), arrivals.count_paths(net),
            arrivals.slack(net, limits))


CIRCUIT = (
    ("a", "b"),
    (("h", BOTH, ("g", "b"), ((1, 4), (1, 4))), ("g", BOTH, ("a", "q"), ((1, 3), (2, 6))), ("one", (True,), (), ()),
     ("m", EITHER, ("one", "one"), ((1, 3), (2, 5))), ("k", EITHER, ("one", "h"), ((9, 99), (0, 2)))),
    (reg("q", "h"),),
    (),
)
STARTS = [(0, 0), (0, 1), (-5, 2)]


class Pairs(unittest.TestCase):
    def test_by_hand(self):
        arrivals = Arrivals(CIRCUIT, STARTS)
        self.assertEqual([(net, arrivals.early(net), arrivals.late(net)) for net in nets_of(CIRCUIT)],
                         [("a", 0, 0), ("b", 0, 1), ("q", -5, 2), ("h", -2, 12), ("g", -3, 8),
                          ("one", None, None), ("m", None, None), ("k", -2, 14)])
        self.assertEqual(arrivals.touched, 0)

    def test_against_all_paths(self):
        for circuit, starts in some_circuits(1, 120, gates=7):
            arrivals = Arrivals(circuit, starts)
            for net in nets_of(circuit):
                paths = all_paths(circuit, net)
                early = min((ends(circuit, starts, path, 0) for path in paths), default=None)
                late = max((ends(circuit, starts, path, 1) for path in paths), default=None)
                self.assertEqual((arrivals.early(net), arrivals.late(net)), (early, late))
                self.assertEqual(arrivals.count_paths(net), len(paths))

    def test_no_run_changes_at_another_time(self):
        source = random.Random(2)
        for circuit, starts in some_circuits(3, 60, gates=5, low=3, spread=4):
            arrivals = Arrivals(circuit, starts)
            waves = [Waveform(source.random() < 0.5, [time for time in range(early, late + 1) if source.random() < 0.6])
                     for early, late in starts]
            run = Run(circuit, waves, [[[source.randint(*pair) for _ in range(3)] for pair in gate[3]]
                                       for gate in circuit[1]])
            for net in nets_of(circuit):
                first, last = run.first_change(net, -99, 99), run.last_change(net, -99, 99)
                if first is not None:
                    self.assertTrue(arrivals.early(net) <= first <= last <= arrivals.late(net))

    def test_small_circuits(self):
        arrivals = Arrivals(((), (), (), ()), [])
        self.assertEqual((arrivals.starts(), arrivals.present(), arrivals.required({})), ([], ((), (), (), ()), {}))
        arrivals = Arrivals((("a",), (), (), ()), [(10 ** 40, 10 ** 40)])
        self.assertEqual((arrivals.early("a"), arrivals.late("a")), (10 ** 40, 10 ** 40))
        self.assertEqual(arrivals.worst_paths("a", 3), [(0, ())])


class Paths(unittest.TestCase):
    def test_by_hand(self):
        arrivals = Arrivals(CIRCUIT, STARTS)
        self.assertEqual(list(arrivals.paths("h")), [(2, ((1, 1), (0, 0))), (0, ((1, 0), (0, 0))), (1, ((0, 1),))])
        self.assertEqual(list(arrivals.paths("b")), [(1, ())])
        self.assertEqual(list(arrivals.paths("one")), [])
        self.assertEqual(list(arrivals.paths("m")), [])
        self.assertEqual(arrivals.worst_paths("k", 1), [(2, ((1, 1), (0, 0), (4, 1)))])

    def test_the_exact_order(self):
        # With few different delays, many paths have equal late arrivals.
        for circuit, starts in itertools.chain(some_circuits(4, 60, gates=7),
                                               some_circuits(5, 60, gates=8, low=0, spread=2),
                                               some_circuits(6, 60, gates=8, low=1, spread=2)):
            arrivals = Arrivals(circuit, starts)
            for net in nets_of(circuit):
                wanted = in_worst_order(circuit, starts, net)
                self.assertEqual(list(arrivals.paths(net)), wanted)
                for many in (0, 1, 2, len(wanted), len(wanted) + 3):
                    self.assertEqual(arrivals.worst_paths(net, many), wanted[:many])

    def test_equal_late_arrivals(self):
        gates = (("x", BOTH, ("b", "a"), ((0, 5), (0, 4))), ("y", BOTH, ("x", "x"), ((1, 4), (2, 4))))
        arrivals = Arrivals((("a", "b"), gates, (), ()), [(0, 1), (0, 0)])
        self.assertEqual(list(arrivals.paths("y")), [
            (0, ((0, 1), (1, 0))), (0, ((0, 1), (1, 1))), (1, ((0, 0), (1, 0))), (1, ((0, 0), (1, 1)))])
        arrivals = Arrivals((("a", "b"), gates, (), ()), [(0, 0), (0, 0)])
        self.assertEqual([path[0] for path in arrivals.paths("y")], [1, 1, 0, 0])

    def ladder(self, many):
        """A path of so many gates, each of which reads the one before at two pins."""
        gates = [(f"g{k}", BOTH, (f"g{k - 1}" if k else "a",) * 2, ((1, 3), (0, 2 + k % 3))) for k in range(many)]
        return (("a",), tuple(gates), (), ())

    def test_more_paths_than_can_be_listed(self):
        circuit = self.ladder(90)
        arrivals = Arrivals(circuit, [(0, 7)])
        self.assertEqual(arrivals.count_paths("g89"), 2 ** 90)
        with few_calls(60):
            found = arrivals.worst_paths("g89", 50)
        lates = [ends(circuit, [(0, 7)], path, 1) for path in found]
        self.assertEqual(len(found), 50)
        # The pins of every third gate have equal highs; so the first paths differ in those only.
        self.assertEqual(set(lates), {arrivals.late("g89")})
        self.assertEqual(found, sorted(found))
        best = [1 if k % 3 == 2 else 0 for k in range(90)]
        for at, (k, pins) in enumerate(found):
            rest = [int(bit) for bit in f"{at:030b}"]
            wanted = [rest[j // 3] if j % 3 == 1 else best[j] for j in range(90)]
            self.assertEqual((k, [pin for _, pin in pins]), (0, wanted))
        self.assertEqual([g for g, _ in found[0][1]], list(range(90)))

    def test_the_first_of_a_long_list(self):
        arrivals = Arrivals(self.ladder(100), [(0, 0)])
        for at, path in enumerate(arrivals.paths("g99")):
            self.assertEqual(len(path[1]), 100)
            if at == 20:
                break
        self.assertEqual(arrivals.worst_paths("g99", 0), [])

    def test_many_paths_are_compared_with_a_small_ladder(self):
        circuit = self.ladder(9)
        self.assertEqual(list(Arrivals(circuit, [(0, 0)]).paths("g8")), in_worst_order(circuit, [(0, 0)], "g8"))

    def test_unknown_names(self):
        arrivals = Arrivals(CIRCUIT, STARTS)
        for name in ("x", "", "aa"):
            waiting = arrivals.paths(name)
            self.assertRaises(UnknownName, next, waiting)
            self.assertRaises(UnknownName, arrivals.worst_paths, name, 1)
            self.assertRaises(UnknownName, arrivals.worst_paths, name, 0)
            self.assertRaises(UnknownName, arrivals.count_paths, name)

    def test_negative_numbers(self):
        arrivals = Arrivals(CIRCUIT, STARTS)
        for name in ("x", "a", "h", "one"):
            for many in (-1, -10 ** 30):
                self.assertRaises(BadArgument, arrivals.worst_paths, name, many)

    def test_paths_go_on_as_they_began(self):
        arrivals = Arrivals(CIRCUIT, STARTS)
        waiting = arrivals.paths("h")
        first = next(waiting)
        arrivals.set_range(0, 0, 50, 70)
        arrivals.set_range(1, 0, 50, 70)
        self.assertEqual([first, *waiting], in_worst_order(CIRCUIT, STARTS, "h"))


class Limits(unittest.TestCase):
    def plain_required(self, circuit, limits, net):
        """The least limit of a net minus the highs of a path to it, over all paths."""
        times = [limits[net]] if net in limits else []
        for name, _, nets, ranges in circuit[1]:
            for other, (_, high) in zip(nets, ranges):
                if other == net:
                    time = self.plain_required(circuit, limits, name)
                    times += [] if time is None else [time - high]
        return min(times, default=None)

    def test_by_hand(self):
        arrivals = Arrivals(CIRCUIT, STARTS)
        self.assertEqual(arrivals.required({"h": 20, "b": 3}),
                         {"a": 13, "b": 3, "q": 10, "h": 20, "g": 16, "one": None, "m": None, "k": None})
        self.assertEqual(arrivals.required({}), {net: None for net in nets_of(CIRCUIT)})
        self.assertEqual(arrivals.slack("g", {"h": 20, "b": 3}), 8)
        self.assertEqual(arrivals.slack("b", {"h": 20, "b": 3}), 2)
        self.assertIsNone(arrivals.slack("k", {"h": 20}))
        self.assertIsNone(arrivals.slack("one", {"m": 0}))
        self.assertEqual(arrivals.required({"m": 0})["one"], -5)

    def test_against_all_paths(self):
        source = random.Random(7)
        for circuit, starts in some_circuits(8, 100, gates=6):
            arrivals = Arrivals(circuit, starts)
            nets = nets_of(circuit)
            limits = {net: source.randrange(-9, 40) for net in source.sample(nets, min(len(nets), source.randrange(4)))}
            kept = dict(limits)
            required = arrivals.required(limits)
            self.assertEqual(required, {net: self.plain_required(circuit, limits, net) for net in nets})
            for net in nets:
                # All paths to a net with a limit that go through this net.
                slacks = [limits[end] - ends(circuit, starts, path, 1) for end in limits
                          for path in all_paths(circuit, end)
                          if net in [source_names(circuit)[path[0]]] + [circuit[1][g][0] for g, _ in path[1]]]
                self.assertEqual(arrivals.slack(net, limits), min(slacks, default=None))
            self.assertEqual(limits, kept)

    def test_unknown_names(self):
        arrivals = Arrivals(CIRCUIT, STARTS)
        for name in ("x", "", "y"):
            self.assertRaises(UnknownName, arrivals.early, name)
            self.assertRaises(UnknownName, arrivals.late, name)
            self.assertRaises(UnknownName, arrivals.required, {"a": 1, name: 1})
            self.assertRaises(UnknownName, arrivals.slack, "a", {name: 1})
            self.assertRaises(UnknownName, arrivals.slack, name, {})
            self.assertRaises(UnknownName, arrivals.slack, name, {name: 1})


class Edits(unittest.TestCase):
    def state(self, arrivals):
        return (arrivals.present(), arrivals.starts(), arrivals.touched,
                [answers(arrivals, net, {"h": 30}) for net in nets_of(CIRCUIT)])

    def test_touched(self):
        arrivals = Arrivals(CIRCUIT, STARTS)
        for edit, touched in (
                (("range", 1, 1, 2, 6), 1),       # the same range: g alone
                (("range", 1, 1, 2, 7), 3),       # g, h and k
                (("range", 1, 0, 1, 4), 1),       # the late of g comes through the other pin
                (("range", 3, 0, 5, 9), 1),       # m has no arrivals
                (("range", 4, 0, 0, 2), 1),
                (("start", 0, 0, 0), 0),          # the same start: no gate
                (("start", 0, 0, 1), 1),          # g is computed again and stays
                (("start", 0, -9, 1), 3),
                (("start", 2, -5, 2), 0),
                (("start", 1, -20, 1), 2),        # h, and k
                (("range", 0, 0, 30, 40), 2)):
            kind, *rest = edit
            (arrivals.set_range if kind == "range" else arrivals.set_start)(*rest)
            self.assertEqual(arrivals.touched, touched, edit)
        self.assertEqual(Arrivals(arrivals.present(), arrivals.starts()).touched, 0)

    def test_each_gate_once(self):
        # The last gate reads all others; it comes when all of them are up to date.
        gates = [(f"g{k}", BUFFER, (f"g{k - 1}" if k else "a",), ((1, 3),)) for k in range(6)]
        gates.append(("all", (False,) * 63 + (True,), tuple(f"g{k}" for k in range(6)), ((0, 2),) * 6))
        for order in ([6, 5, 4, 3, 2, 1, 0], [0, 1, 2, 3, 4, 5, 6], [3, 6, 0, 5, 1, 4, 2]):
            arrivals = Arrivals((("a",), tuple(gates[k] for k in order), (), ()), [(0, 0)])
            arrivals.set_start(0, 5, 5)
            self.assertEqual((arrivals.touched, arrivals.late("all")), (7, 25))
            arrivals.set_range(order.index(3), 0, 1, 4)
            self.assertEqual((arrivals.touched, arrivals.late("all"), arrivals.early("all")), (4, 26, 6))

    def test_early_and_late_alone(self):
        arrivals = Arrivals((("a",), (("g", BUFFER, ("a",), ((1, 9),)), ("h", BUFFER, ("g",), ((1, 9),))), (), ()),
                            [(0, 5)])
        arrivals.set_start(0, 1, 5)
        self.assertEqual((arrivals.touched, arrivals.early("h"), arrivals.late("h")), (2, 3, 23))
        arrivals.set_start(0, 1, 6)
        self.assertEqual((arrivals.touched, arrivals.early("h"), arrivals.late("h")), (2, 3, 24))

    def test_what_is_not_allowed(self):
        arrivals = Arrivals(CIRCUIT, STARTS)
        arrivals.set_start(0, 0, 2)
        before = self.state(arrivals)
        self.assertEqual(before[2], 1)
        for gate, pin in ((-1, 0), (5, 0), (0, 2), (0, -1), (2, 0), (1, 2), (99, 99), (-5, 0)):
            self.assertRaises(BadArgument, arrivals.set_range, gate, pin, 1, 3)
            self.assertRaises(BadArgument, arrivals.set_range, gate, pin, 3, 1)
        for low, high in ((-1, 3), (1, 2), (1, 1), (5, 1), (-4, -1), (10 ** 5000, 0)):
            self.assertRaises(BadRange, arrivals.set_range, 1, 1, low, high)
        for k in (-1, 3, -3, 99):
            self.assertRaises(BadArgument, arrivals.set_start, k, 0, 1)
            self.assertRaises(BadArgument, arrivals.set_start, k, 1, 0)
        for early, late in ((1, 0), (0, -1), (10 ** 5000, 0)):
            self.assertRaises(BadRange, arrivals.set_start, 1, early, late)
        self.assertRaises(UnknownName, arrivals.early, "x")
        self.assertEqual(self.state(arrivals), before)

    def test_making_errors(self):
        for starts in ([], STARTS[:2], STARTS + [(0, 0)], [(1, 0)], [(1, 0)] * 4):
            self.assertRaises(WrongCount, Arrivals, CIRCUIT, starts)
        for k in range(3):
            self.assertRaises(BadRange, Arrivals, CIRCUIT, [(1, 0) if j == k else (0, 0) for j in range(3)])
        self.assertRaises(WrongCount, Arrivals, ((), (), (), ()), [(0, 0)])

    def plain_touched(self, circuit, before, after, first):
        """The gates that the document counts: the first ones, and the readers of what has changed."""
        changed = [net for net in nets_of(circuit) if (before.early(net), before.late(net)) != (
            after.early(net), after.late(net))]
        return len(set(first) | {g for g, gate in enumerate(circuit[1]) if set(changed) & set(gate[2])})

    def test_random_changes(self):
        source = random.Random(9)
        for circuit, starts in some_circuits(10, 60, gates=7, low=2, spread=3):
            arrivals = Arrivals(circuit, starts)
            kept = copy.deepcopy((circuit, starts))
            rows = [list(gate[3]) for gate in circuit[1]]
            pins = [(g, pin) for g, row in enumerate(rows) for pin in range(len(row))]
            now = list(starts)
            for _ in range(8):
                old = Arrivals(arrivals.present(), arrivals.starts())
                if pins and source.random() < 0.6:
                    g, pin = source.choice(pins)
                    rows[g][pin] = random_range(source, 2, 3)
                    arrivals.set_range(g, pin, *rows[g][pin])
                    first = [g]
                else:
                    k = source.randrange(len(now))
                    now[k] = random_starts(source, circuit)[k]
                    arrivals.set_start(k, *now[k])
                    first = []
                present = (circuit[0], tuple((*gate[:3], tuple(row)) for gate, row in zip(circuit[1], rows)),
                           *circuit[2:])
                self.assertEqual((arrivals.present(), arrivals.starts()), (present, now))
                new = Arrivals(present, now)
                self.assertEqual(arrivals.touched, self.plain_touched(circuit, old, new, first))
                limits = {net: 9 for net in nets_of(circuit)[::2]}
                self.assertEqual(arrivals.required(limits), new.required(limits))
                for net in nets_of(circuit):
                    self.assertEqual(answers(arrivals, net, limits), answers(new, net, limits))
            check_circuit(arrivals.present())
            self.assertEqual((circuit, starts), kept)

    def test_lists_that_are_changed_afterwards(self):
        starts = list(STARTS)
        arrivals = Arrivals(CIRCUIT, starts)
        starts[0] = (7, 7)
        starts.pop()
        arrivals.starts().clear()
        arrivals.required({}).clear()
        arrivals.worst_paths("h", 2).clear()
        self.assertEqual((arrivals.starts(), arrivals.late("h"), len(arrivals.required({}))), (STARTS, 12, 8))
        self.assertEqual(arrivals.present(), CIRCUIT)
        present = arrivals.present()
        arrivals.set_range(0, 0, 9, 11)
        self.assertEqual(present, CIRCUIT)


if __name__ == "__main__":
    unittest.main()
