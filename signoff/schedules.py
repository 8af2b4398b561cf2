"""Shifts of the clock of each register, and the least period that they make possible."""

from signoff.circuits import gate_order, sources
from signoff.clocked import Clocked
from signoff.differences import least_values
from signoff.errors import BadArgument, WrongCount


def shifted(clocked, shifts):
    """The clocked circuit in which the edge range of each register is shifted."""
    inputs, gates, regs, outputs = clocked.circuit()
    if len(shifts) != len(regs):
        raise WrongCount("there is not one shift for each reg")
    if min(shifts, default=0) < 0:
        raise BadArgument("a shift is negative")
    moved = tuple([moved_edge(reg, by) for reg, by in zip(regs, shifts)])
    return Clocked((inputs, gates, moved, outputs), clocked.period, clocked.holds())


def moved_edge(reg, by):
    """The register with its edge range moved by some time."""
    name, net, (low, high), *rest = reg
    return (name, net, (low + by, high + by), *rest)


def constraints(clocked):
    """The list of the constraints for the shifts, under which no margin is negative."""
    circuit = clocked.circuit()
    windows = clocked.windows(0)
    order = gate_order(circuit)
    setups = []
    holds = []
    for i, root in enumerate(sources(circuit)):
        sums = _path_sums(circuit, order, root)
        first, last = windows[i]
        for r, reg in enumerate(circuit[2]):
            if reg[1] in sums:
                shortest, longest = sums[reg[1]]
                needed, until = clocked.needed(r)
                setups.append(("setup", i, r, needed - first - longest))
                holds.append(("hold", i, r, last + shortest - until - 1))
    return setups + holds + [("floor", r) for r in range(len(circuit[2]))]


def find_shifts(clocked):
    """The list of the least shifts that satisfy all constraints, None if there are none."""
    shifts, _ = _solved(clocked.circuit(), constraints(clocked))
    return shifts


def conflict(clocked):
    """The list of constraints that contradict each other, None if shifts satisfy them all."""
    rows = constraints(clocked)
    _, found = _solved(clocked.circuit(), rows)
    return None if found is None else [rows[k] for k in found]


def least_period(circuit, holds):
    """The least period for which there are shifts, with the least ones of them, None if there is none."""
    least = 1 + max([reg[2][1] - reg[2][0] for reg in circuit[2]], default=0)
    rows = constraints(Clocked(circuit, least, holds))
    shifts, _ = _solved(circuit, [row for row in rows if row[0] != "setup"])
    if shifts is None:
        return None
    # What these shifts lack is surely enough to be added to the period.
    low = 0
    high = _lack(circuit, rows, shifts)
    while low < high:
        middle = (low + high) // 2
        shifts, _ = _solved(circuit, _with_longer_period(rows, middle))
        if shifts is None:
            low = middle + 1
        else:
            high = middle
    shifts, _ = _solved(circuit, _with_longer_period(rows, low))
    return least + low, shifts


def _path_sums(circuit, order, root):
    """For each net with a path from a source, the least sum of lows and the greatest sum of highs."""
    found = {root: (0, 0)}
    for g in order:
        name, _, nets, ranges = circuit[1][g]
        sums = [(found[net][0] + low, found[net][1] + high)
                for net, (low, high) in zip(nets, ranges) if net in found]
        if sums:
            found[name] = (min([shortest for shortest, _ in sums]), max([longest for _, longest in sums]))
    return found


def _solved(circuit, rows):
    """The least shifts that satisfy some constraints, or the indexes of those that contradict each other."""
    values, found = least_values(1 + len(circuit[2]), _differences(circuit, rows))
    return None if values is None else values[1:], found


def _differences(circuit, rows):
    """For each constraint a triple (x, y, most): x minus y is at most so much.

    The shift of register r is called r + 1; the shifts of all inputs, which are 0, are called 0.
    """
    many = len(circuit[0])
    found = []
    for row in rows:
        if row[0] == "floor":
            found.append((0, row[1] + 1, 0))
        else:
            kind, i, r, most = row
            root = max(0, i - many + 1)
            found.append((root, r + 1, most) if kind == "setup" else (r + 1, root, most))
    return found


def _lack(circuit, rows, shifts):
    """How much the worst setup constraint lacks for some shifts, 0 if all are satisfied."""
    values = [0] + shifts
    setups = _differences(circuit, [row for row in rows if row[0] == "setup"])
    return max([0] + [values[x] - values[y] - most for x, y, most in setups])


def _with_longer_period(rows, by):
    """The constraints for a period that is longer by some time."""
    return [(kind, *rest[:-1], rest[-1] + by) if kind == "setup" else (kind, *rest) for kind, *rest in rows]
