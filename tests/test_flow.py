"""Points 10.1 and 10.2."""

import random
import unittest

from signoff.clocked import Clocked
from signoff.clockruns import ClockedRun
from signoff.corners import derated
from signoff.decks import flatten
from signoff.errors import (BadArgument, BadNet, BadRange, BadSyntax, BadToken, Looped, NameClash, Recursive, TooDeep,
                            TooLarge, UnknownName, WrongCount)
from signoff.flow import is_clean_report, sign_off
from signoff.meaning import trace
from signoff.parser import parse_deck
from tests.makers import plain_settle, random_play

CELLS = """
cell inv(a) = !a { pin a 1..3; }
cell both(a, b) = a & b { pin a 2..4; pin b 1..5; }
cell exor(a, b) = a ^ b { pin a 2..4; pin b 3..6; }
cell one() = 1 { }
"""
COUNTER = CELLS + """
module bit(x) -> (q, c) {
  gate d = exor(q, x);
  gate c = both(q, x);
  reg q = d edge 0..1 out 3..5 setup 1 hold 1 start 0;
}
module top(go) -> (q0, q1) {
  part low: (q0, c0) = bit(go);
  part high: (q1, c1) = bit(c0);
  gate k = one();
  reg kept = k edge 0..0 out 1..2 setup 1 hold 0 start 1;
}
"""


class Reports(unittest.TestCase):
    def test_clean(self):
        # low/d is late at 4 + 6 or 6 + 4, high/d at 6 + 4 + 6; both must be settled from 29 to 32.
        # low/d is early at 33 + 2 or 32 + 3, high/d at 33 + 2.
        report = sign_off(COUNTER, "top", 30, [(4, 2)])
        self.assertEqual(report, ("top", 30, (("low/q", 19, 2, None), ("high/q", 13, 2, None),
                                              ("kept", None, None, None))))
        self.assertIs(is_clean_report(report), True)
        self.assertEqual([type(part) for part in report], [str, int, tuple])

    def test_not_clean(self):
        report = sign_off(COUNTER, "top", 15, [(4, 2)])
        self.assertEqual(report[:2], ("top", 15))
        self.assertEqual([row[:3] for row in report[2]], [("low/q", 4, 2), ("high/q", -2, 2), ("kept", None, None)])
        # The carry is known from 9 on at the earliest, and high/d 6 later.
        self.assertEqual([row[3] for row in report[2]], [None, (14, (False,) * 4), None])
        self.assertIs(is_clean_report(report), False)

    def test_against_clocked(self):
        source = random.Random(1)
        kinds = [0, 0]
        for _ in range(60):
            period, since = source.randrange(8, 40), source.randrange(8)
            holds = [(since, since - source.randrange(4))]
            early, late = source.choice(((1, 1), (1, 2), (0, 1), (2, 3))), source.choice(((1, 1), (3, 2), (5, 4),
                                                                                          (2, 1)))
            report = sign_off(COUNTER, "top", period, holds, early=early, late=late)
            clocked = Clocked(derated(flatten(parse_deck(COUNTER), "top"), early, late), period, holds)
            violations = {r: (time, vector) for r, time, vector in clocked.violations()}
            wanted = tuple((one[0], *clocked.margins(r), violations.get(r)) for r,
                           one in enumerate(clocked.circuit()[2]))
            self.assertEqual(report, ("top", period, wanted))
            self.assertIs(is_clean_report(report), clocked.is_clean())
            kinds[clocked.is_clean()] += 1
        self.assertGreater(min(kinds), 5)

    def test_ratios(self):
        text = CELLS + """module m(a) -> (g) { gate g = inv(a); reg q = g edge 0..0 out 1..2 setup 0 hold 0 start 0; }"""
        for early, late, wanted in (((1, 1), (1, 1), (7, 0)), ((1, 1), (2, 1), (4, 0)), ((0, 5), (1, 1), (7, -1)),
                                    ((1, 2), (4, 3), (6, -1)), ((2, 2), (10, 9), (6, 0)),
                                    ((99, 100), (301, 300), (6, -1))):
            self.assertEqual(sign_off(text, "m", 10, [(0, 0)], early=early, late=late)[2][0][1:3], wanted)

    def test_no_registers(self):
        report = sign_off(CELLS + "module m() -> () { }", "m", 1, [])
        self.assertEqual((report, is_clean_report(report)), (("m", 1, ()), True))

    def test_is_clean_report(self):
        for rows, wanted in (((), True), ((("q", -5, -5, None),), True), ((("q", 5, 5, (3, ())),), False),
                             ((("q", None, None, None), ("p", 1, 1, (0, (False,)))), False),
                             ((("q", 1, 1, (0, (False,))), ("p", None, None, None)), False)):
            self.assertIs(is_clean_report(("m", 3, rows)), wanted)

    def test_the_main_guarantee(self):
        source = random.Random(2)
        for early, late in (((1, 1), (1, 1)), ((1, 2), (2, 1))):
            period = next(p for p in range(5, 99) if is_clean_report(
                sign_off(COUNTER, "top", p, [(4, 2)], early=early, late=late)))
            clocked = Clocked(derated(flatten(parse_deck(COUNTER), "top"), early, late), period, [(4, 2)])
            for _ in range(20):
                rows, play = random_play(source, clocked, 6)
                run = ClockedRun(clocked, rows, **play)
                self.assertEqual([run.state(k) for k in range(7)], trace(clocked.circuit(), rows))
            faster = sign_off(COUNTER, "top", period - 1, [(4, 2)], early=early, late=late)
            self.assertIs(is_clean_report(faster), False)
            clocked = Clocked(clocked.circuit(), period - 1, [(4, 2)])
            for r, row in enumerate(faster[2]):
                if row[3] is not None:
                    time, vector = row[3]
                    net = clocked.circuit()[2][r][1]
                    run = clocked.witness(r)
                    self.assertIs(run.respects(vector, clocked.windows(0)), True)
                    self.assertIs(run.value(net, time), not plain_settle(clocked.circuit(), vector)[net])

    def test_by_keyword_only(self):
        self.assertRaises(TypeError, sign_off, COUNTER, "top", 30, [(4, 2)], (1, 1), (1, 1))


# Texts with one fault each, in the order in which their errors come.
PARSING = [
    (BadToken, COUNTER + "?"),
    (TooDeep, COUNTER + "(" * 21 + ")" * 21),
    (BadSyntax, COUNTER + "cell"),
    (TooDeep, COUNTER + "cell x(a) = " + "a & " * 20 + "a { pin a 1..3; }"),
]
DECKS = [
    (NameClash, COUNTER + "cell inv() = 1 { }"),
    (UnknownName, COUNTER + "cell x() = y { }"),
    (WrongCount, COUNTER + "cell x(a) = a { }"),
    (BadRange, COUNTER + "cell x(a) = a { pin a 1..2; }"),
    (BadNet, COUNTER + "module x(a) -> (a) { }"),
    (Recursive, COUNTER + "module x() -> () { part u: () = x(); }"),
]
RING = "module ring() -> () { gate x = inv(y); gate y = inv(x); }"
HUGE = "module m0() -> () { gate x = one(); } " + "".join(
    f"module m{k + 1}() -> () {{ part x: () = m{k}(); part y: () = m{k}(); }} " for k in range(9))


class Errors(unittest.TestCase):
    def test_each(self):
        for error, text in PARSING + DECKS:
            self.assertRaises(error, sign_off, text, "top", 30, [(4, 2)])
        self.assertRaises(UnknownName, sign_off, COUNTER, "tip", 30, [(4, 2)])
        self.assertRaises(TooLarge, sign_off, COUNTER + HUGE, "m9", 30, [])
        self.assertRaises(Looped, sign_off, COUNTER + RING, "ring", 30, [])
        chain = "module chain(a) -> () { gate x0 = inv(a); " + "".join(
            f"gate x{k + 1} = inv(x{k}); " for k in range(100)) + "}"
        self.assertRaises(TooDeep, sign_off, COUNTER + chain, "chain", 30, [(0, 0)])
        for early, late in (((2, 1), (1, 1)), ((1, 1), (1, 2)), ((-1, 2), (1, 1)), ((1, 0), (1, 1)), ((1, 1), (1, 0)),
                            ((1, 1), (-3, -2))):
            self.assertRaises(BadArgument, sign_off, COUNTER, "top", 30, [(4, 2)], early=early, late=late)
        for holds in ([], [(4, 2), (4, 2)]):
            self.assertRaises(WrongCount, sign_off, COUNTER, "top", 30, holds)
        for period in (0, -3):
            self.assertRaises(BadArgument, sign_off, COUNTER, "top", period, [(4, 2)])
        self.assertRaises(BadRange, sign_off, COUNTER, "top", 30, [(4, 5)])
        self.assertRaises(BadRange, sign_off, COUNTER, "top", 1, [(4, 2)])

    def test_which_one_comes_first(self):
        ratios = {"early": (2, 1), "late": (1, 2)}
        for error, text in PARSING:
            self.assertRaises(error, sign_off, text.replace("hold 1", "hold 9"), "tip", 0, [(4, 5)], **ratios)
        for error, text in DECKS:
            self.assertRaises(error, sign_off, text, "tip", 0, [(4, 5)] * 2, **ratios)
        self.assertRaises(UnknownName, sign_off, COUNTER, "tip", 0, [(4, 5)] * 2, **ratios)
        self.assertRaises(TooLarge, sign_off, COUNTER + HUGE, "m9", 0, [(4, 5)] * 2, **ratios)
        self.assertRaises(Looped, sign_off, COUNTER + RING, "ring", 0, [(4, 5)] * 2, **ratios)
        self.assertRaises(BadArgument, sign_off, COUNTER, "top", 0, [(4, 5)] * 2, **ratios)
        self.assertRaises(WrongCount, sign_off, COUNTER, "top", 0, [(4, 5)] * 2)
        self.assertRaises(BadArgument, sign_off, COUNTER, "top", 0, [(4, 5)])
        self.assertRaises(BadArgument, sign_off, COUNTER, "top", 1, [], late=(1, 2))

    def test_arguments_stay(self):
        holds = [(4, 2)]
        report = sign_off(COUNTER, "top", 30, holds)
        self.assertEqual(holds, [(4, 2)])
        holds.clear()
        self.assertEqual(report, sign_off(COUNTER, "top", 30, [(4, 2)]))


if __name__ == "__main__":
    unittest.main()
