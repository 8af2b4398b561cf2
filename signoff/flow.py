"""The whole way from a text to a report."""

from signoff.clocked import Clocked
from signoff.corners import derated
from signoff.decks import flatten
from signoff.parser import parse_deck


def sign_off(text, module, period, holds, *, early=(1, 1), late=(1, 1)):
    """The report of a module of a deck: its margins and violations, register by register."""
    circuit = derated(flatten(parse_deck(text), module), early, late)
    clocked = Clocked(circuit, period, holds)
    found = {r: (time, vector) for r, time, vector in clocked.violations()}
    rows = []
    for r, reg in enumerate(circuit[2]):
        setup, hold = clocked.margins(r)
        rows.append((reg[0], setup, hold, found.get(r)))
    return module, period, tuple(rows)


def is_clean_report(report):
    """Whether no register has a violation."""
    return all([row[3] is None for row in report[2]])
