"""Points 14.1 to 14.4."""

import copy
import random
import unittest

from signoff.circuits import check_circuit
from signoff.clocked import Clocked
from signoff.errors import BadArgument, BadRange, Refused, SignoffError
from signoff.rewrites import move_forward, simplify, tidy
from signoff.sessions import Session, replayed, same_clocked
from tests.makers import BOTH, BUFFER, EXOR, INVERTER, random_clocked, random_range, reg

CIRCUIT = (
    ("a", "b"),
    (("g", BOTH, ("p", "q"), ((1, 3), (2, 6))), ("h", EXOR, ("g", "a"), ((1, 3), (1, 4))),
     ("i", INVERTER, ("a",), ((1, 3),)),
     ("one", (True,), (), ()), ("c", BOTH, ("one", "b"), ((1, 3), (1, 3)))),
    (reg("p", "h", (1, 2), (5, 8), 1, 1), reg("q", "c", (1, 2), (5, 8), 1, 1, True),
     reg("r", "b", (0, 4), (5, 8), 1, 1)),
    (("y", "g"),),
)
HOLDS = [(6, 5), (7, 7)]
CLOCKED = Clocked(CIRCUIT, 30, HOLDS)


def parts(clocked):
    return clocked.circuit(), clocked.period, clocked.holds()


def random_edit(source, clocked):
    """An edit, most often one that can be made."""
    inputs, gates, regs, _ = clocked.circuit()
    kind = source.choice(("range", "range", "period", "shift", "shift", "holds", "forward", "forward", "simplify",
                          "tidy"))
    g, r, k = source.randrange(-1, len(gates) + 1), source.randrange(-1, len(regs) + 1), source.randrange(-1,
                                                                                                          len(inputs) + 1)
    if kind == "range":
        low, high = random_range(source)
        return (kind, g, source.randrange(-1, 3), low, high - source.choice((0, 0, 0, 2)))
    if kind == "period":
        return (kind, source.choice((0, 2, 9, 30, 31)))
    if kind == "shift":
        return (kind, r, source.randrange(-3, 5))
    if kind == "holds":
        since = source.randrange(9)
        return (kind, k, since, since - source.randrange(-1, 3))
    return (kind, g) if kind == "forward" else (kind,)


def plain_edited(clocked, edit):
    """The parts of the clocked circuit after an edit, by the words of point 14.1, or the error."""
    (inputs, gates, regs, outputs), period, holds = parts(clocked)
    kind = edit[0]
    if kind == "range":
        _, g, pin, low, high = edit
        if g not in range(len(gates)) or pin not in range(len(gates[g][2])):
            return BadArgument
        if low < 0 or high < low + 2:
            return BadRange
        name, table, nets, ranges = gates[g]
        gates = (*gates[:g], (name, table, nets, (*ranges[:pin], (low, high), *ranges[pin + 1:])), *gates[g + 1:])
    elif kind == "period":
        period = edit[1]
    elif kind == "shift":
        _, r, by = edit
        if r not in range(len(regs)):
            return BadArgument
        name, net, (low, high), *rest = regs[r]
        if low + by < 0:
            return BadRange
        regs = (*regs[:r], (name, net, (low + by, high + by), *rest), *regs[r + 1:])
    elif kind == "holds":
        if edit[1] not in range(len(inputs)):
            return BadArgument
        holds[edit[1]] = edit[2:]
    made = (inputs, gates, regs, outputs)
    try:
        made = {"forward": move_forward, "simplify": simplify, "tidy": tidy}.get(kind, lambda one, *rest: one)(made,
                                                                                                               *edit[1:])
        return parts(Clocked(made, period, holds))
    except SignoffError as error:
        return type(error)


class Edits(unittest.TestCase):
    def check(self, edit, wanted):
        session = Session(CLOCKED)
        if isinstance(wanted, type):
            self.assertRaises(wanted, session.edit, edit)
            self.assertEqual(parts(session.clocked()), parts(CLOCKED))
            self.assertEqual((session.edits(), session.undone(), session.undo(), session.redo()), ([], 0, False, False))
            return
        self.assertIsNone(session.edit(edit))
        self.assertIs(type(session.clocked()), Clocked)
        self.assertEqual(parts(session.clocked()), wanted)
        self.assertEqual(session.edits(), [edit])
        self.assertEqual(parts(CLOCKED), (CIRCUIT, 30, HOLDS))

    def with_gate(self, g, gate):
        return (CIRCUIT[0], (*CIRCUIT[1][:g], gate, *CIRCUIT[1][g + 1:]), *CIRCUIT[2:]), 30, HOLDS

    def with_reg(self, r, one):
        return (*CIRCUIT[:2], (*CIRCUIT[2][:r], one, *CIRCUIT[2][r + 1:]), CIRCUIT[3]), 30, HOLDS

    def test_ranges(self):
        self.check(("range", 0, 1, 0, 2), self.with_gate(0, ("g", BOTH, ("p", "q"), ((1, 3), (0, 2)))))
        self.check(("range", 2, 0, 5, 10 ** 30), self.with_gate(2, ("i", INVERTER, ("a",), ((5, 10 ** 30),))))
        self.check(("range", 0, 0, 1, 3), (CIRCUIT, 30, HOLDS))
        for g, pin in ((-1, 0), (5, 0), (0, -1), (0, 2), (3, 0), (2, 1), (10 ** 30, 0), (-5, 0), (0, 10 ** 30)):
            self.check(("range", g, pin, 1, 3), BadArgument)
            self.check(("range", g, pin, -1, 3), BadArgument)
        for low, high in ((-1, 3), (1, 2), (5, 5), (5, 1), (-3, -1)):
            self.check(("range", 0, 0, low, high), BadRange)

    def test_periods(self):
        for period in (5, 29, 30, 10 ** 30):
            self.check(("period", period), (CIRCUIT, period, HOLDS))
        for period in (0, -1, -10 ** 30):
            self.check(("period", period), BadArgument)
        # One edge range is 4 wide.
        for period in (1, 3, 4):
            self.check(("period", period), BadRange)

    def test_shifts(self):
        for by, edge in ((3, (4, 5)), (-1, (0, 1)), (0, (1, 2)), (10 ** 30, (10 ** 30 + 1, 10 ** 30 + 2))):
            self.check(("shift", 1, by), self.with_reg(1, ("q", "c", edge, *CIRCUIT[2][1][3:])))
        for by in (-2, -3, -10 ** 30):
            self.check(("shift", 1, by), BadRange)
        self.check(("shift", 2, -1), BadRange)
        for r in (-1, 3, 10 ** 30, -3):
            self.check(("shift", r, 1), BadArgument)
            self.check(("shift", r, -9), BadArgument)

    def test_holds(self):
        self.check(("holds", 0, 3, 1), (CIRCUIT, 30, [(3, 1), (7, 7)]))
        self.check(("holds", 1, -5, -5), (CIRCUIT, 30, [(6, 5), (-5, -5)]))
        self.check(("holds", 1, 5, 6), BadRange)
        for k in (-1, 2, -2, 10 ** 30):
            self.check(("holds", k, 3, 1), BadArgument)
            self.check(("holds", k, 1, 3), BadArgument)

    def test_rewriting(self):
        self.check(("forward", 0), (move_forward(CIRCUIT, 0), 30, HOLDS))
        for g in (-1, 5, 10 ** 30):
            self.check(("forward", g), BadArgument)
        for g in (1, 2, 3, 4):
            self.check(("forward", g), Refused)
        self.check(("simplify",), (simplify(CIRCUIT), 30, HOLDS))
        self.check(("tidy",), (tidy(CIRCUIT), 30, HOLDS))
        self.assertNotIn(CIRCUIT, (simplify(CIRCUIT), tidy(CIRCUIT)))

    def test_indexes_are_those_of_the_moment(self):
        session = Session(CLOCKED)
        session.edit(("tidy",))
        self.assertEqual([gate[0] for gate in session.clocked().circuit()[1]], ["g", "h", "one", "c"])
        self.assertRaises(BadArgument, session.edit, ("range", 4, 0, 1, 3))
        session.edit(("range", 3, 1, 5, 9))
        session.edit(("simplify",))
        self.assertEqual(session.clocked().circuit()[1][3], ("c", BUFFER, ("b",), ((5, 9),)))
        self.assertRaises(BadArgument, session.edit, ("range", 3, 1, 5, 9))
        session.edit(("forward", 0))
        # p and q are gone.
        self.assertEqual([one[0] for one in session.clocked().circuit()[2]], ["r", "g"])
        session.edit(("shift", 1, 4))
        self.assertRaises(BadArgument, session.edit, ("shift", 2, 4))
        self.assertEqual(session.clocked().circuit()[2][1], ("g", "g/d", (5, 6), (5, 8), 1, 1, False))

    def test_random_edits(self):
        source = random.Random(1)
        counts = {}
        for _ in range(250):
            clocked = random_clocked(source, inputs=2, regs=3, gates=5, pins=2)
            if source.random() < 0.5:
                inputs, gates, regs, outputs = clocked.circuit()
                regs = tuple((*one[:2], *regs[0][2:6], one[6]) for one in regs)
                clocked = Clocked((inputs, gates, regs, outputs), 9, clocked.holds())
            session = Session(clocked)
            made = []
            for _ in range(10):
                edit = random_edit(source, session.clocked())
                wanted = plain_edited(session.clocked(), edit)
                before = parts(session.clocked())
                counts[edit[0], isinstance(wanted, type)] = counts.get((edit[0], isinstance(wanted, type)), 0) + 1
                if isinstance(wanted, type):
                    self.assertRaises(wanted, session.edit, edit)
                    self.assertEqual(parts(session.clocked()), before)
                else:
                    session.edit(edit)
                    made.append(edit)
                    self.assertEqual(parts(session.clocked()), wanted)
                self.assertEqual(session.edits(), made)
            self.assertIs(same_clocked(replayed(clocked, made), session.clocked()), True)
        self.assertGreater(min(counts.values()), 15)
        self.assertEqual(len(counts), 12)


class UndoAndRedo(unittest.TestCase):
    def test_by_hand(self):
        session = Session(CLOCKED)
        self.assertEqual((session.undo(), session.redo(), session.undone(), session.edits()), (False, False, 0, []))
        for edit in (("period", 9), ("tidy",), ("shift", 0, 3)):
            session.edit(edit)
        self.assertEqual((session.redo(), session.undo(), session.undo(), session.undone()), (False, True, True, 2))
        self.assertEqual(session.edits(), [("period", 9)])
        self.assertEqual((session.redo(), session.edits(), session.undone()), (True, [("period", 9), ("tidy",)], 1))
        session.edit(("period", 11))
        self.assertEqual((session.undone(), session.redo()), (0, False))
        self.assertEqual([session.undo() for _ in range(4)], [True, True, True, False])
        self.assertEqual((session.undone(), parts(session.clocked())), (3, parts(CLOCKED)))
        self.assertEqual([session.redo() for _ in range(4)], [True, True, True, False])
        self.assertEqual(session.edits(), [("period", 9), ("tidy",), ("period", 11)])

    def test_refused_edits_do_not_count(self):
        session = Session(CLOCKED)
        session.edit(("period", 9))
        session.edit(("period", 10))
        session.undo()
        for edit, error in ((("period", 0), BadArgument), (("period", 3), BadRange), (("forward", 1), Refused),
                            (("forward", 9), BadArgument),
                            (("range", 0, 0, 3, 4), BadRange), (("shift", 0, -9), BadRange),
                            (("holds", 0, 0, 1), BadRange)):
            self.assertRaises(error, session.edit, edit)
            self.assertEqual((session.undone(), session.edits()), (1, [("period", 9)]))
        self.assertEqual((session.redo(), session.clocked().period), (True, 10))

    def test_a_plain_list_of_states(self):
        source = random.Random(2)
        for _ in range(60):
            clocked = random_clocked(source, inputs=1, regs=2, gates=4, pins=2)
            session = Session(clocked)
            states, edits, at = [parts(clocked)], [], 0
            for _ in range(40):
                kind = source.randrange(5)
                if kind == 0:
                    self.assertIs(session.undo(), at > 0)
                    at = max(0, at - 1)
                elif kind == 1:
                    self.assertIs(session.redo(), at < len(edits))
                    at = min(len(edits), at + 1)
                else:
                    edit = random_edit(source, session.clocked())
                    wanted = plain_edited(session.clocked(), edit)
                    try:
                        session.edit(edit)
                        states[at + 1:], edits[at:] = [wanted], [edit]
                        at += 1
                    except SignoffError as error:
                        self.assertIs(type(error), wanted)
                self.assertEqual(parts(session.clocked()), states[at])
                self.assertEqual((session.edits(), session.undone()), (edits[:at], len(edits) - at))
            self.assertIs(same_clocked(replayed(clocked, session.edits()), session.clocked()), True)


class Slowest(unittest.TestCase):
    def test_by_hand(self):
        circuit = (("a",), (("s", BUFFER, ("a",), ((1, 9),)), ("f", BUFFER, ("a",), ((1, 5),)),
                            ("one", (True,), (), ())),
                   (reg("k", "one"), reg("p", "f"), reg("q", "s"), reg("r", "s")), ())
        session = Session(Clocked(circuit, 20, [(0, 0)]))
        # Of equal margins the first one; margins that are None do not count.
        self.assertEqual(session.slowest(), (2, 11))
        session.edit(("range", 1, 0, 0, 10))
        self.assertEqual(session.slowest(), (1, 10))
        session.edit(("shift", 1, 1))
        self.assertEqual(session.slowest(), (1, 11))
        session.edit(("shift", 1, 1))
        self.assertEqual(session.slowest(), (2, 11))
        session.edit(("period", 3))
        self.assertEqual(session.slowest(), (2, -6))
        session.undo()
        session.edit(("holds", 0, 10 ** 30, 0))
        self.assertEqual(session.slowest(), (2, 11 - 10 ** 30))

    def test_none(self):
        self.assertIsNone(Session(Clocked((("a",), (), (), ()), 2, [(0, 0)])).slowest())
        circuit = ((), (("one", (True,), (), ()),), (reg("p", "one"), reg("q", "one")), ())
        self.assertIsNone(Session(Clocked(circuit, 2, [])).slowest())

    def test_against_margins(self):
        source = random.Random(3)
        for _ in range(100):
            clocked = random_clocked(source, inputs=1, regs=4, gates=5)
            margins = [(clocked.margins(r)[0], r) for r in range(4) if clocked.margins(r)[0] is not None]
            self.assertEqual(Session(clocked).slowest(), min(margins)[::-1] if margins else None)


class SameClocked(unittest.TestCase):
    def test_each_one_thing(self):
        self.assertIs(same_clocked(CLOCKED, CLOCKED), True)
        self.assertIs(same_clocked(CLOCKED, Clocked(copy.deepcopy(CIRCUIT), 30, list(HOLDS))), True)
        inputs, gates, regs, outputs = CIRCUIT
        g, i, p, r = gates[0], gates[2], regs[0], regs[2]
        changed = [(inputs[::-1], gates, regs, outputs), (inputs, gates[::-1], regs, outputs),
                   (inputs, gates, regs[::-1], outputs),
                   (inputs, gates[:2] + gates[3:], regs, outputs),
                   (inputs, gates[:2] + (("z", *i[1:]),) + gates[3:], regs, outputs),
                   (inputs, gates, regs[:2], outputs), (inputs, gates, regs[:2] + (("z", *r[1:]),), outputs),
                   (inputs, gates, regs, ()), (inputs, gates, regs, (("y", "h"),)),
                   (inputs, gates, regs, (("z", "g"),))]
        for other in (("g", EXOR, *g[2:]), (*g[:2], ("q", "p"), g[3]), (*g[:3], ((1, 3), (2, 7))),
                      (*g[:3], ((0, 3), (2, 6)))):
            changed.append((inputs, (other, *gates[1:]), regs, outputs))
        for other in (("p", "g", *p[2:]), (*p[:2], (1, 3), *p[3:]), (*p[:2], (0, 2), *p[3:]), (*p[:3], (5, 9), *p[4:]),
                      (*p[:3], (4, 8), *p[4:]), (*p[:4], 2, *p[5:]), (*p[:5], 0, p[6]), (*p[:6], True)):
            changed.append((inputs, gates, (other, *regs[1:]), outputs))
        for circuit in changed:
            check_circuit(circuit)
            other = Clocked(circuit, 30, HOLDS)
            self.assertIs(same_clocked(CLOCKED, other), False)
            self.assertIs(same_clocked(other, CLOCKED), False)
            self.assertIs(same_clocked(other, Clocked(copy.deepcopy(circuit), 30, HOLDS)), True)
        for other in (Clocked(CIRCUIT, 31, HOLDS), Clocked(CIRCUIT, 30, [(6, 4), (7, 7)]),
                      Clocked(CIRCUIT, 30, [(6, 5), (8, 7)]),
                      Clocked(CIRCUIT, 30, HOLDS[::-1])):
            self.assertIs(same_clocked(CLOCKED, other), False)
            self.assertIs(same_clocked(other, CLOCKED), False)


class Replayed(unittest.TestCase):
    def test_by_hand(self):
        edits = [("tidy",), ("shift", 0, 3), ("period", 25)]
        found = replayed(CLOCKED, edits)
        self.assertIs(type(found), Clocked)
        session = Session(CLOCKED)
        for edit in edits:
            session.edit(edit)
        self.assertEqual(parts(found), parts(session.clocked()))
        self.assertIs(same_clocked(replayed(CLOCKED, []), CLOCKED), True)
        self.assertEqual(edits, [("tidy",), ("shift", 0, 3), ("period", 25)])

    def test_errors(self):
        for edits, error in (([("tidy",), ("range", 4, 0, 1, 3)], BadArgument),
                             ([("period", 3), ("period", 0)], BadRange),
                             ([("forward", 0), ("forward", 0)], Refused),
                             ([("shift", 0, -1), ("shift", 0, -1)], BadRange)):
            self.assertRaises(error, replayed, CLOCKED, edits)


class Copies(unittest.TestCase):
    def test_lists_that_are_changed_afterwards(self):
        session = Session(CLOCKED)
        session.edit(("tidy",))
        session.edit(("period", 12))
        session.edits().clear()
        session.edits().append(("simplify",))
        session.clocked().holds().clear()
        self.assertEqual(session.edits(), [("tidy",), ("period", 12)])
        self.assertEqual(session.clocked().holds(), HOLDS)

    def test_sessions_do_not_meet(self):
        first, second = Session(CLOCKED), Session(CLOCKED)
        first.edit(("period", 12))
        self.assertEqual((second.clocked().period, second.edits(), CLOCKED.period), (30, [], 30))
        earlier = first.clocked()
        first.edit(("period", 13))
        self.assertEqual(earlier.period, 12)


if __name__ == "__main__":
    unittest.main()
