"""Sessions, in which a clocked circuit is changed by edits that can be taken back."""

from signoff.circuits import check_pin_range, with_ranges
from signoff.clocked import Clocked
from signoff.errors import BadArgument, BadRange
from signoff.rewrites import move_forward, simplify, tidy
from signoff.schedules import moved_edge


def same_clocked(first, second):
    """Whether two clocked circuits have equal circuits, periods and pairs."""
    return (first.circuit() == second.circuit() and first.period == second.period
            and first.holds() == second.holds())


def replayed(clocked, edits):
    """The clocked circuit that some edits make of another one."""
    session = Session(clocked)
    for edit in edits:
        session.edit(edit)
    return session.clocked()


def _with_range(clocked, g, pin, low, high):
    gates = clocked.circuit()[1]
    if g < 0 or g >= len(gates) or pin < 0 or pin >= len(gates[g][3]):
        raise BadArgument("there is no such pin")
    check_pin_range((low, high))
    rows = [list(gate[3]) for gate in gates]
    rows[g][pin] = (low, high)
    return _with_circuit(clocked, with_ranges(clocked.circuit(), rows))


def _with_period(clocked, period):
    return Clocked(clocked.circuit(), period, clocked.holds())


def _with_shift(clocked, r, by):
    inputs, gates, regs, outputs = clocked.circuit()
    if r < 0 or r >= len(regs):
        raise BadArgument("there is no such reg")
    moved = moved_edge(regs[r], by)
    if moved[2][0] < 0:
        raise BadRange("an edge range would begin below 0")
    return _with_circuit(clocked, (inputs, gates, regs[:r] + (moved,) + regs[r + 1:], outputs))


def _with_holds(clocked, k, since, until):
    holds = clocked.holds()
    if k < 0 or k >= len(holds):
        raise BadArgument("there is no such input")
    holds[k] = (since, until)
    return Clocked(clocked.circuit(), clocked.period, holds)


def _with_move(clocked, g):
    return _with_circuit(clocked, move_forward(clocked.circuit(), g))


def _simplified(clocked):
    return _with_circuit(clocked, simplify(clocked.circuit()))


def _tidied(clocked):
    return _with_circuit(clocked, tidy(clocked.circuit()))


def _with_circuit(clocked, circuit):
    return Clocked(circuit, clocked.period, clocked.holds())


# What makes an edit, by its first item; the other items are the arguments behind the clocked circuit.
MAKERS = {
    "range": _with_range,
    "period": _with_period,
    "shift": _with_shift,
    "holds": _with_holds,
    "forward": _with_move,
    "simplify": _simplified,
    "tidy": _tidied,
}


class Session:
    """A clocked circuit that is changed by edits."""

    def __init__(self, clocked):
        self._first = clocked
        # Pairs of an edit and the clocked circuit after it.
        self._done = []
        self._taken_back = []

    def edit(self, edit):
        """Makes an edit."""
        kind, *rest = edit
        maker = MAKERS[kind]
        before = self.clocked()
        after = maker(before, *rest)
        self._done.append((edit, after))
        self._taken_back.clear()

    def undo(self):
        """Takes back the last edit that was not taken back; False if there is none."""
        if len(self._done) == 0:
            return False
        self._taken_back.append(self._done.pop())
        return True

    def redo(self):
        """Makes the last edit again that was taken back; False if there is none."""
        if len(self._taken_back) == 0:
            return False
        self._done.append(self._taken_back.pop())
        return True

    def clocked(self):
        """The clocked circuit as it is now."""
        return self._done[-1][1] if self._done else self._first

    def edits(self):
        """The list of the edits that were made and not taken back."""
        return [edit for edit, _ in self._done]

    def undone(self):
        """The number of edits that `redo` could make again."""
        return len(self._taken_back)

    def slowest(self):
        """The register with the least setup margin, with this margin, None if there is none."""
        clocked = self.clocked()
        best = None
        for r in range(len(clocked.circuit()[2])):
            margin, _ = clocked.margins(r)
            if margin is not None and (best is None or margin < best[1]):
                best = (r, margin)
        return best
