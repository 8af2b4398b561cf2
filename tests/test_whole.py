"""What holds over the whole program: the interface, and points 0.1 to 0.3."""

import copy
import importlib
import inspect
import unittest

from signoff import errors
from signoff.arrivals import Arrivals
from signoff.circuits import check_circuit, cone, gate_order, readers, sources
from signoff.clocked import Clocked
from signoff.clockruns import ClockedRun
from signoff.corners import derated, loaded, merged, within
from signoff.decks import check_deck, flatten, module_size
from signoff.diagrams import Diagrams
from signoff.flow import is_clean_report, sign_off
from signoff.meaning import functions, settle, start_state, step, trace
from signoff.parser import parse_deck, parse_expression
from signoff.printer import show_deck, show_expression
from signoff.records import cut, glued, read_record, record_of, same_meaning, write_record
from signoff.reports import read_report, write_report
from signoff.rewrites import move_forward, simplify, tidy
from signoff.runs import Run
from signoff.schedules import conflict, constraints, find_shifts, least_period, shifted
from signoff.sessions import Session, replayed, same_clocked
from signoff.settled import Settled
from signoff.sizing import cheapest, sized, total_cost
from signoff.tables import cubes, depends_on, forced, inputs_of, look_up, table_of
from signoff.tokens import is_name, is_numeral, tokenize
from signoff.trees import height, names_in
from signoff.waveforms import Waveform, holds, in_window
from signoff.wires import WireTree

# For each module its functions, and for each class how it is made and its methods, with their arguments.
FUNCTIONS = {
    "tokens": ["tokenize(text)", "is_name(token)", "is_numeral(token)"],
    "trees": ["height(tree)", "names_in(tree)"],
    "parser": ["parse_expression(text)", "parse_deck(text)"],
    "printer": ["show_expression(tree)", "show_deck(deck)"],
    "tables": ["table_of(tree, names)", "inputs_of(table)", "look_up(table, bits)", "depends_on(table)",
               "forced(table, partial)", "cubes(table, value)"],
    "circuits": ["check_circuit(circuit)", "sources(circuit)", "readers(circuit, net)", "cone(circuit, names)",
                 "gate_order(circuit)"],
    "meaning": ["settle(circuit, vector)", "functions(circuit, diagrams)", "start_state(circuit)",
                "step(circuit, state, bits)", "trace(circuit, rows)"],
    "decks": ["check_deck(deck)", "module_size(deck, name)", "flatten(deck, name)"],
    "corners": ["loaded(circuit, wires, *, unit=1)", "derated(circuit, early, late)", "merged(circuits)",
                "within(circuit, other)"],
    "waveforms": ["in_window(window, time)", "holds(waveform, value, window)"],
    "schedules": ["shifted(clocked, shifts)", "constraints(clocked)", "find_shifts(clocked)", "conflict(clocked)",
                  "least_period(circuit, holds)"],
    "flow": ["sign_off(text, module, period, holds, *, early=(1, 1), late=(1, 1))", "is_clean_report(report)"],
    "reports": ["write_report(report)", "read_report(text)"],
    "rewrites": ["simplify(circuit)", "tidy(circuit)", "move_forward(circuit, g)"],
    "sizing": ["sized(circuit, sizes, choice)", "total_cost(sizes, choice)",
               "cheapest(circuit, starts, limits, sizes)"],
    "records": ["record_of(run, nets, low, high)", "write_record(record)", "read_record(text)",
                "same_meaning(first, second)", "cut(record, low, high)", "glued(first, second)"],
    "sessions": ["same_clocked(first, second)", "replayed(clocked, edits)"],
}
CLASSES = {
    "diagrams": ["Diagrams()", "variable(k)", "negate(a)", "both(a, b)", "either(a, b)", "choose(c, a, b)",
                 "all_of(references)", "any_of(references)", "applied(table, references)", "fix(a, k, value)",
                 "value(a, bits)", "support(a)", "count(a, many)", "least(a, many)"],
    "wires": ["WireTree(segments)", "__len__()", "parent(node)", "path(node)", "below(node)",
              "delay(node, resistances, capacitances)", "delay_range(node, *, unit=1)"],
    "waveforms": ["Waveform(start, changes)", "changes()", "value_at(time)", "shows(value, low, high)",
                  "is_steady(low, high)", "shifted(by)", "same_as(other)", "__invert__()", "__and__(other)",
                  "__or__(other)", "__xor__(other)"],
    "runs": ["Run(circuit, waves, delays)", "value(net, time)", "bits(net, low, high)", "first_change(net, low, high)",
             "last_change(net, low, high)", "respects(vector, windows)"],
    "arrivals": ["Arrivals(circuit, starts)", "early(net)", "late(net)", "paths(net)", "worst_paths(net, many)",
                 "count_paths(net)", "required(limits)", "slack(net, limits)", "set_range(gate, pin, low, high)",
                 "set_start(k, early, late)", "present()", "starts()"],
    "settled": ["Settled(circuit, windows)", "is_settled(net, time, vector)", "is_sure(net, time)",
                "loose_vector(net, time)", "count_loose(net, time)", "late(net)", "late_for(net, vector)", "early(net)",
                "early_for(net, vector)", "witness(net, time, vector)", "trail(net, time, vector)"],
    "clocked": ["Clocked(circuit, period, holds)", "is_clean()", "circuit()", "holds()", "windows(cycle)", "settled()",
                "needed(r)", "violations()", "witness(r)", "margins(r)"],
    "clockruns": ["ClockedRun(clocked, rows, *, edges, shakes, guesses, delays)", "state(k)", "edge_time(r, k)",
                  "value(net, time)"],
    "sessions": ["Session(clocked)", "edit(edit)", "undo()", "redo()", "clocked()", "edits()", "undone()",
                 "slowest()"],
}
PROPERTIES = {"waveforms": ("Waveform", "start"), "arrivals": ("Arrivals", "touched"), "clocked": ("Clocked", "period")}
ERRORS = {
    "SignoffError": "ValueError", "BadArgument": "SignoffError", "Refused": "SignoffError", "BadToken": "SignoffError",
    "BadSyntax": "SignoffError", "TooDeep": "SignoffError", "DeckError": "SignoffError", "UnknownName": "DeckError",
    "NameClash": "DeckError", "WrongCount": "DeckError", "BadRange": "DeckError", "BadNet": "DeckError",
    "Recursive": "DeckError", "Looped": "SignoffError", "TooLarge": "SignoffError", "BadReport": "SignoffError",
    "BadRecord": "SignoffError",
}


def module_of(title):
    return importlib.import_module(f"signoff.{title}")


class Interface(unittest.TestCase):
    def check(self, found, text, *, method=False):
        """Compares the arguments with those of the document, where a method has one more."""
        parameters = list(inspect.signature(found).parameters.values())[int(method):]
        wanted = inspect.signature(eval(f"lambda {text[text.index('(') + 1:-1]}: None")).parameters.values()
        self.assertEqual([(one.name, one.kind, one.default) for one in parameters],
                         [(one.name, one.kind, one.default) for one in wanted], text)

    def test_functions(self):
        for title, texts in FUNCTIONS.items():
            for text in texts:
                found = getattr(module_of(title), text[:text.index("(")])
                self.assertTrue(inspect.isfunction(found))
                self.assertEqual(found.__module__, f"signoff.{title}")
                self.check(found, text)

    def test_classes(self):
        for title, (making, *methods) in CLASSES.items():
            found = getattr(module_of(title), making[:making.index("(")])
            self.assertTrue(inspect.isclass(found))
            self.assertEqual(found.__module__, f"signoff.{title}")
            self.check(found, making)
            for text in methods:
                # In the class itself, not only in a base class.
                self.check(vars(found)[text[:text.index("(")]], text, method=True)
        for title, (name, word) in PROPERTIES.items():
            self.assertIsInstance(vars(getattr(module_of(title), name))[word], property)
        self.assertIsInstance(vars(Waveform)["of_bits"], classmethod)
        self.check(Waveform.of_bits, "of_bits(first, bits, *, before=False, after=False)")
        self.assertTrue(inspect.isgeneratorfunction(Arrivals.paths))

    def test_errors(self):
        for name, base in ERRORS.items():
            found = getattr(errors, name)
            self.assertEqual([one.__name__ for one in found.__bases__], [base])
            self.assertEqual(found.__module__, "signoff.errors")
        self.assertEqual((errors.BadToken(3).at, errors.BadSyntax(4).at, errors.Looped(("a",)).names), (3, 4, ("a",)))

    def test_constants(self):
        self.assertEqual((module_of("diagrams").FALSE, module_of("diagrams").TRUE), (0, 1))


TEXT = """
cell inv(a) = !a { pin a 1..3; }
cell both(a, b) = a & b { pin a 2..4; pin b 1..5; }
module half(x, y) -> (n) { gate g = both(x, y); gate n = inv(g); }
module top(a, b) -> (d, p) {
  part u: (d) = half(p, q);
  reg p = a edge 0..1 out 6..8 setup 1 hold 1 start 0;
  reg q = d edge 0..1 out 6..8 setup 1 hold 1 start 1;
}
"""
DECK = parse_deck(TEXT)
CIRCUIT = flatten(DECK, "top")
HOLDS = [(6, 5), (7, 5)]
CLOCKED = Clocked(CIRCUIT, 30, HOLDS)
WAVES = [Waveform(False, [0]), Waveform(True, [4]), Waveform(False, []), Waveform(True, [7, 9])]
DELAYS = [[[2, 4], [1, 5, 3]], [[1, 2]]]
RUN = Run(CIRCUIT, WAVES, DELAYS)
PLAY = {"edges": [[0, 1], [1]], "shakes": [[True, False]] * 4, "guesses": [[True], [False]], "delays": DELAYS}
STARTS = [(0, 1), (2, 2), (0, 0), (-1, 3)]
WINDOWS = [(0, None), (1, None), (2, None), (0, None)]
VECTOR = (True, False, True, True)
TREE = parse_expression("a & !b | 1")
TABLE = (False, True, True, True)
WIRES = {"p": (WireTree([(0, (1, 2), (1, 1))]), {(0, 0): 1})}
SIZES = [[(3, ((2, 4), (1, 5))), (4, ((0, 3), (1, 3)))], [(1, ((1, 3),))]]
REPORT = ("top", 9, (("u/q", 1, -2, (11, (False, True))), ("p", None, None, None)))
RECORD = (0, 2, (("a", (True, True, False)), ("b", (False,) * 3)))
EDITS = [("range", 0, 0, 3, 9), ("period", 31), ("tidy",)]

# All functions with arguments, each of which must stay as it is.
CALLS = [
    (tokenize, TEXT), (is_name, "a"), (is_numeral, "3"), (height, TREE), (names_in, TREE), (parse_expression, "a & b"),
    (parse_deck, TEXT), (show_expression, TREE), (show_deck, DECK), (table_of, TREE, ("a", "b")), (inputs_of, TABLE),
    (look_up, TABLE, (True, False)), (depends_on, TABLE), (forced, TABLE, (-1, 1)), (cubes, TABLE, True),
    (check_circuit, CIRCUIT), (sources, CIRCUIT), (readers, CIRCUIT, "p"), (cone, CIRCUIT, ["p", "a"]),
    (gate_order, CIRCUIT), (settle, CIRCUIT, VECTOR), (start_state, CIRCUIT),
    (step, CIRCUIT, (True, False), (True, True)),
    (trace, CIRCUIT, [(True, False), (False, False)]), (check_deck, DECK), (module_size, DECK, "top"),
    (flatten, DECK, "top"), (derated, CIRCUIT, (1, 2), (3, 2)), (merged, [CIRCUIT, derated(CIRCUIT, (1, 2), (1, 1))]),
    (within, CIRCUIT, CIRCUIT), (in_window, (0, 4), 3), (holds, WAVES[1], True, (0, 4)), (constraints, CLOCKED),
    (find_shifts, CLOCKED), (conflict, Clocked(CIRCUIT, 9, HOLDS)), (least_period, CIRCUIT, HOLDS),
    (sign_off, TEXT, "top", 30, HOLDS), (is_clean_report, REPORT), (write_report, REPORT),
    (read_report, write_report(REPORT)), (simplify, CIRCUIT), (tidy, CIRCUIT), (move_forward, CIRCUIT, 0),
    (sized, CIRCUIT, SIZES, [1, 0]), (total_cost, SIZES, [1, 0]), (cheapest, CIRCUIT, STARTS, {"u/n": 9}, SIZES),
    (record_of, RUN, ["a", "u/n"], -1, 9), (write_record, RECORD), (read_record, write_record(RECORD)),
    (same_meaning, RECORD, RECORD), (cut, RECORD, 1, 2), (glued, RECORD, (3, 3, (("a", (True,)), ("b", (True,))))),
    (same_clocked, CLOCKED, CLOCKED),
]
# Calls whose answers have no `==` of their own.
OTHER_CALLS = [
    (loaded, CIRCUIT, WIRES), (shifted, CLOCKED, [0, 3]), (replayed, CLOCKED, EDITS), (Run, CIRCUIT, WAVES, DELAYS),
    (Settled, CIRCUIT, WINDOWS), (Arrivals, CIRCUIT, STARTS), (Clocked, CIRCUIT, 30, HOLDS), (Session, CLOCKED),
    (WireTree, [(0, (1, 2), (1, 1))]), (Waveform, True, [1, 2]), (functions, CIRCUIT, Diagrams()),
]
# Methods that change nothing, with arguments.
METHODS = [
    (Diagrams(), "all_of", [1, 1]), (Diagrams(), "any_of", [0, 1]), (Diagrams(), "applied", TABLE, [0, 1]),
    (Diagrams(), "value", 1, [True]), (Diagrams(), "support", 1), (Diagrams(), "least", 1, 3),
    (WIRES["p"][0], "path", 1), (WIRES["p"][0], "below", 0), (WIRES["p"][0], "delay", 1, [2], [1]),
    (WAVES[3], "changes"), (RUN, "bits", "u/n", -2, 9), (RUN, "respects", VECTOR, WINDOWS),
    (Arrivals(CIRCUIT, STARTS), "worst_paths", "u/n", 3), (Arrivals(CIRCUIT, STARTS), "required", {"u/n": 9}),
    (Arrivals(CIRCUIT, STARTS), "slack", "p", {"u/n": 9}), (Arrivals(CIRCUIT, STARTS), "present"),
    (Arrivals(CIRCUIT, STARTS), "starts"), (Settled(CIRCUIT, WINDOWS), "trail", "u/n", 3, (False,) * 4),
    (Settled(CIRCUIT, WINDOWS), "is_settled", "u/n", 3, VECTOR), (Settled(CIRCUIT, WINDOWS), "late_for", "u/n", VECTOR),
    (CLOCKED, "circuit"), (CLOCKED, "holds"), (CLOCKED, "windows", 1), (CLOCKED, "violations"), (CLOCKED, "margins", 1),
    (Clocked(CIRCUIT, 9, HOLDS), "violations"), (ClockedRun(CLOCKED, [(True, True)], **PLAY), "state", 1),
    (Session(CLOCKED), "edits"), (Session(CLOCKED), "slowest"), (Session(CLOCKED), "undone"),
]


def spoil(value):
    """Changes all lists and dictionaries in a value."""
    if isinstance(value, (list, tuple)):
        for part in value:
            spoil(part)
    if isinstance(value, dict):
        for part in value.values():
            spoil(part)
    if isinstance(value, (list, dict)):
        value.clear()


class Arguments(unittest.TestCase):
    def test_all_functions_are_called_here(self):
        called = {call[0].__name__ for call in CALLS + OTHER_CALLS}
        listed = {text[:text.index("(")] for texts in FUNCTIONS.values() for text in texts}
        self.assertEqual(listed - called, set())

    def test_they_stay(self):
        for function, *given in CALLS + OTHER_CALLS:
            # An object has no `==`, so only the plain parts are compared.
            before = copy.deepcopy([repr(one) for one in given if not hasattr(one, "__dict__")])
            function(*given)
            self.assertEqual([repr(one) for one in given if not hasattr(one, "__dict__")], before, function.__name__)
        for made, name, *given in METHODS:
            before = repr(given)
            getattr(made, name)(*given)
            self.assertEqual(repr(given), before, name)

    def test_answers_are_new(self):
        for function, *given in CALLS:
            wanted = copy.deepcopy(function(*given))
            spoil(function(*given))
            self.assertEqual(function(*given), wanted, function.__name__)
        for made, name, *given in METHODS:
            wanted = copy.deepcopy(getattr(made, name)(*given))
            spoil(getattr(made, name)(*given))
            self.assertEqual(getattr(made, name)(*given), wanted, name)

    def test_objects_copy_what_they_are_given(self):
        for build, ask in (
                (lambda: ([(0, (1, 2), (1, 1)), (1, (3, 3), (2, 4))],), lambda *given: WireTree(*given).delay_range),
                (lambda: (True, [1, 2]), lambda *given: Waveform(*given).value_at),
                (lambda: (CIRCUIT, list(WAVES), copy.deepcopy(DELAYS)), lambda *given: lambda k,
                 made=Run(*given): made.bits("u/n", 0, 20)),
                (lambda: (CIRCUIT, list(STARTS)), lambda *given: lambda k, made=Arrivals(*given): made.late("u/n")),
                (lambda: (CIRCUIT, list(WINDOWS)), lambda *given: lambda k, made=Settled(*given): made.late("u/n")),
                (lambda: (CIRCUIT, 30, list(HOLDS)), lambda *given: Clocked(*given).windows),
                (lambda: (CLOCKED, [(True, True), (False, True)], copy.deepcopy(PLAY)),
                 lambda clocked, rows, play: lambda k, made=ClockedRun(clocked, rows, **play): [
                     (made.state(n % 3), made.value("u/n", n)) for n in range(90)])):
            given = build()
            found = ask(*given)
            spoil([one for one in given if isinstance(one, (list, dict))])
            self.assertEqual(found(2), ask(*build())(2))


class Kinds(unittest.TestCase):
    def test_nothing_but_the_package_is_imported(self):
        for title in [*FUNCTIONS, *CLASSES, "errors"]:
            for name, value in vars(module_of(title)).items():
                if not name.startswith("__") and (inspect.isfunction(value) or inspect.isclass(value)):
                    self.assertTrue(value.__module__.startswith("signoff."), name)

    def test_booleans_and_integers(self):
        # What is a boolean in the document is one, and not an integer, in every answer.
        answers = [function(*given) for function, *given in CALLS]
        for function, answer in zip([call[0] for call in CALLS], answers):
            if function in (is_name, is_numeral, look_up, within, in_window, holds, is_clean_report, same_meaning,
                            same_clocked):
                self.assertIs(type(answer), bool)
        for function in (inputs_of, module_size, total_cost, height):
            answer = next(answer for call, answer in zip(CALLS, answers) if call[0] is function)
            self.assertIs(type(answer), int)


if __name__ == "__main__":
    unittest.main()
