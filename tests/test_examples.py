"""The examples of the interface, as they stand in the document, and those of README.md."""

import os
import unittest

from tests.helpers import failures

EXAMPLES = {
    "tokens": '''
>>> from signoff.tokens import tokenize
>>> tokenize("pin a 3..6; # slow")
['pin', 'a', '3', '..', '6', ';']
''',
    "parser, expressions": '''
>>> from signoff.parser import parse_expression
>>> parse_expression("!a & b | 0")
('or', ('and', ('not', ('name', 'a')), ('name', 'b')), ('const', False))
''',
    "parser, decks": '''
>>> from signoff.parser import parse_deck
>>> parse_deck("cell inv(a) = !a { pin a 1..3; }")
((('inv', ('a',), ('not', ('name', 'a')), (('a', 1, 3),)),), ())
''',
    "printer, 1": '''
>>> from signoff.printer import show_expression
>>> show_expression(("and", ("name", "a"), ("and", ("name", "b"), ("const", True))))
'a & (b & 1)'
''',
    "tables, 1": '''
>>> from signoff.tables import table_of
>>> table_of(("and", ("name", "a"), ("not", ("name", "b"))), ("a", "b"))
(False, True, False, False)
''',
    "tables, 2": '''
>>> from signoff.tables import cubes
>>> cubes((False, False, False, True), False)
[(-1, 0), (0, -1)]
''',
    "diagrams, 1": '''
>>> from signoff.diagrams import Diagrams
>>> d = Diagrams()
>>> d.both(d.variable(0), d.negate(d.variable(0)))
0
''',
    "diagrams, 2": '''
>>> from signoff.diagrams import Diagrams
>>> d = Diagrams()
>>> d.least(d.either(d.variable(0), d.variable(2)), 3)
(False, False, True)
''',
    "meaning": '''
>>> from signoff.meaning import trace
>>> inverter = ("n", (True, False), ("q",), ((1, 3),))
>>> trace(((), (inverter,), (("q", "n", (0, 0), (1, 2), 0, 0, False),), ()), [(), ()])
[(False,), (True,), (False,)]
''',
    "decks": '''
>>> from signoff.parser import parse_deck
>>> from signoff.decks import flatten
>>> d = parse_deck("cell inv(a) = !a { pin a 1..3; } module m(x) -> (y) { gate y = inv(x); } module top(i) -> (o) { part u: (o) = m(i); }")
>>> flatten(d, "top")
(('i',), (('u/y', (True, False), ('i',), ((1, 3),)),), (), (('o', 'u/y'),))
''',
    "wires, 1": '''
>>> from signoff.wires import WireTree
>>> t = WireTree([(0, (1, 2), (1, 1)), (1, (3, 3), (2, 4))])
>>> t.delay(2, [2, 3], [1, 4])
22
''',
    "wires, 2": '''
>>> from signoff.wires import WireTree
>>> t = WireTree([(0, (1, 2), (1, 1)), (1, (3, 3), (2, 4))])
>>> t.delay_range(2, unit=4)
(2, 6)
''',
    "waveforms, 1": '''
>>> from signoff.waveforms import Waveform
>>> w = Waveform(False, [3, 5]) | Waveform(True, [4])
>>> (w.start, w.changes())
(True, [5])
''',
    "waveforms, 2": '''
>>> from signoff.waveforms import Waveform
>>> Waveform.of_bits(-1, [True, True, False], after=True).changes()
[-1, 1, 2]
''',
    "runs": '''
>>> from signoff.runs import Run
>>> from signoff.waveforms import Waveform
>>> c = (("a",), (("n", (True, False), ("a",), ((1, 3),)),), (), ())
>>> Run(c, [Waveform(False, [0])], [[[1, 3]]]).bits("n", 0, 4)
[True, True, False, False, False]
''',
    "arrivals": '''
>>> from signoff.arrivals import Arrivals
>>> both = (False, False, False, True)
>>> c = (("a", "b"), (("g", both, ("a", "b"), ((1, 3), (2, 6))), ("h", both, ("g", "b"), ((1, 4), (1, 4)))), (), ())
>>> a = Arrivals(c, [(0, 0), (0, 1)])
>>> (a.early("h"), a.late("h"), a.worst_paths("h", 2))
(1, 11, [(1, ((0, 1), (1, 0))), (0, ((0, 0), (1, 0)))])
''',
    "settled, 1": '''
>>> from signoff.settled import Settled
>>> c = (("a", "b"), (("n", (True, False), ("b",), ((5, 7),)), ("g", (False, False, False, True), ("a", "n"), ((1, 3), (1, 3)))), (), ())
>>> s = Settled(c, [(0, None), (0, None)])
>>> (s.late("g"), s.late_for("g", (False, False)), s.late_for("g", (True, False)))
(10, 3, 10)
''',
    "settled, 2": '''
>>> from signoff.settled import Settled
>>> c = (("a",), (("n", (True, False), ("a",), ((5, 7),)), ("g", (False, False, False, True), ("a", "n"), ((1, 3), (1, 3)))), (), ())
>>> s = Settled(c, [(0, None)])
>>> (s.late("g"), s.late_for("g", (False,)), s.loose_vector("g", 5), s.loose_vector("g", 9))
(10, 3, (True,), (True,))
''',
    "clocked": '''
>>> from signoff.clocked import Clocked
>>> c = ((), (("n", (True, False), ("q",), ((1, 3),)),), (("q", "n", (0, 2), (1, 2), 1, 1, False),), ())
>>> k = Clocked(c, 9, [])
>>> (k.windows(0), k.needed(0), k.margins(0), k.violations())
([(4, 10)], (8, 12), (1, -2), [(0, 11, (False,))])
''',
    "clockruns": '''
>>> from signoff.clocked import Clocked
>>> from signoff.clockruns import ClockedRun
>>> c = ((), (("n", (True, False), ("q",), ((3, 5),)),), (("q", "n", (0, 1), (1, 3), 1, 1, False),), ())
>>> r = ClockedRun(Clocked(c, 20, []), [(), (), ()], edges=[[0, 1]], shakes=[[True]], guesses=[[False]], delays=[[[4]]])
>>> [r.state(k) for k in range(4)]
[(False,), (True,), (False,), (True,)]
''',
    "schedules": '''
>>> from signoff.clocked import Clocked
>>> from signoff.schedules import constraints, find_shifts
>>> buffer = (False, True)
>>> c = (("a",), (("g", buffer, ("p",), ((10, 12),)),), (("p", "a", (0, 0), (1, 2), 0, 0, False), ("q", "g", (0, 0), (1, 2), 0, 0, False)), ())
>>> k = Clocked(c, 9, [(3, 1)])
>>> (find_shifts(k), constraints(k)[:2])
([0, 5], [('setup', 0, 0, 6), ('setup', 1, 1, -5)])
''',
    "reports": r'''
>>> from signoff.reports import write_report
>>> write_report(("top", 9, (("u/q", 1, -2, (11, (False, True))), ("p", None, None, None))))
'module top period 9\nreg u/q setup 1 hold -2 loose at 11 for 01\nreg p setup none hold none ok\nnot clean\n'
''',
    "rewrites": '''
>>> from signoff.rewrites import move_forward
>>> both = (False, False, False, True)
>>> times = ((0, 1), (1, 2), 1, 0)
>>> c = (("a", "b"), (("g", both, ("p", "q"), ((1, 3), (1, 4))),), (("p", "a", *times, True), ("q", "b", *times, True)), (("y", "g"),))
>>> move_forward(c, 0)
(('a', 'b'), (('g/d', (False, False, False, True), ('a', 'b'), ((1, 3), (1, 4))),), (('g', 'g/d', (0, 1), (1, 2), 1, 0, True),), (('y', 'g'),))
''',
    "sizing": '''
>>> from signoff.sizing import cheapest
>>> c = (("a",), (("n", (True, False), ("a",), ((5, 9),)), ("m", (True, False), ("n",), ((5, 9),))), (), ())
>>> sizes = [[(1, ((5, 9),)), (4, ((2, 4),))], [(1, ((5, 9),)), (3, ((3, 5),))]]
>>> cheapest(c, [(0, 0)], {"m": 14}, sizes)
(4, [0, 1])
''',
    "records": r'''
>>> from signoff.records import write_record
>>> write_record((-1, 1, (("u/q", (False, False, True)),)))
'from -1 to 1\nu/q 2x0 1x1\n'
''',
    "sessions": '''
>>> from signoff.clocked import Clocked
>>> from signoff.sessions import Session
>>> c = ((), (("n", (True, False), ("q",), ((1, 3),)),), (("q", "n", (0, 2), (1, 2), 1, 1, False),), ())
>>> s = Session(Clocked(c, 9, []))
>>> s.edit(("range", 0, 0, 4, 6))
>>> (s.slowest(), s.undo(), s.slowest(), s.undone())
((0, -2), True, (0, 1), 1)
''',
}


class Examples(unittest.TestCase):
    def test_all(self):
        for title, text in EXAMPLES.items():
            with self.subTest(title):
                self.assertEqual(failures(text), (text.count(">>>"), 0))

    def test_readme(self):
        root = os.path.dirname(os.path.dirname(os.path.abspath(__file__)))
        with open(os.path.join(root, "README.md"), encoding="utf-8") as handle:
            text = handle.read()
        self.assertEqual(failures(text), (text.count(">>>"), 0))


if __name__ == "__main__":
    unittest.main()
