"""Runs of a clocked circuit through several cycles."""

from signoff.circuits import sources
from signoff.errors import BadArgument, BadRange, WrongCount
from signoff.playback import Playback, check_delay_counts, check_delays

# How many values a run remembers.
MOST_KEPT = 100000


class HeldInput:
    """An input of a clocked run: in its window of each cycle it has its bit of this cycle."""

    def __init__(self, period, pair, bits, shakes):
        self._period = period
        self._pair = pair
        self._bits = bits
        self._shakes = list(shakes)

    def value_at(self, time):
        """The value of the input at a time."""
        since, until = self._pair
        k = (time - since) // self._period
        if 0 <= k < len(self._bits) and time < (k + 1) * self._period + until:
            return self._bits[k]
        return self._shakes[time % len(self._shakes)]


class RegOutput:
    """The output of a register of a clocked run.

    It is told what is stored at each edge, one after the other, before it is asked for a
    time at which it shows that.
    """

    def __init__(self, period, reg, many, edges, shakes):
        self._period = period
        self._edge_high = reg[2][1]
        self._out = reg[3]
        self._many = many
        self._edges = list(edges)
        self._shakes = list(shakes)
        self._stored = [reg[6]]

    def edge_time(self, k):
        """The time of the k-th edge."""
        return k * self._period + self._edges[k % len(self._edges)]

    def shown_time(self, k):
        """The time from which on it shows what was stored at the k-th edge."""
        return self.edge_time(k) + self._out[1]

    def store(self, bit):
        """Stores a bit at the next edge."""
        self._stored.append(bit)

    def stored(self, k):
        """What was stored at the k-th edge, the start value for k = 0."""
        return self._stored[k]

    def value_at(self, time):
        """The value of the output at a time."""
        k = self._last_edge(time)
        if k > 0 and time < self.shown_time(k):
            return self._shakes[time % len(self._shakes)]
        return self._stored[k]

    def _last_edge(self, time):
        """The number of the last edge that has had its effect at a time, 0 if none has."""
        # Edges come at less than a period from one to the other end of their range, so only
        # the edge behind the one that must have come can have come as well.
        sure = (time - self._out[0] - self._edge_high) // self._period
        k = min(max(sure, 0), self._many)
        if k < self._many and self.edge_time(k + 1) + self._out[0] <= time:
            return k + 1
        return k


class ClockedRun(Playback):
    """A run of a clocked circuit through as many cycles as there are rows of input values."""

    def __init__(self, clocked, rows, *, edges, shakes, guesses, delays):
        circuit = clocked.circuit()
        inputs, _, regs, _ = circuit
        _check_counts(circuit, rows, edges, shakes, guesses)
        check_delay_counts(circuit, delays)
        _check_edges(regs, edges)
        check_delays(circuit, delays)
        self._many = len(rows)
        self._regs = regs
        self._guesses = [list(row) for row in guesses]
        self._inputs = [HeldInput(clocked.period, pair, [row[k] for row in rows], shakes[k])
                        for k, pair in enumerate(clocked.holds())]
        self._outputs = [RegOutput(clocked.period, reg, len(rows), edges[r], shakes[len(inputs) + r])
                         for r, reg in enumerate(regs)]
        roots = {net: root for net, root in zip(sources(circuit), self._inputs + self._outputs)}
        super().__init__(circuit, roots, delays)
        # Values that were found, since questions about neighbouring times often come together.
        self._known = {}
        self._store_all()

    def state(self, k):
        """The tuple of what the registers stored at their k-th edges, the start state for k = 0."""
        if k < 0 or k > self._many:
            raise BadArgument("there is no such cycle")
        return tuple([output.stored(k) for output in self._outputs])

    def edge_time(self, r, k):
        """The time of the k-th edge of a register."""
        if r < 0 or r >= len(self._outputs):
            raise BadArgument("there is no such reg")
        if k < 1 or k > self._many:
            raise BadArgument("there is no such edge")
        return self._outputs[r].edge_time(k)

    def value(self, net, time):
        """The value of a net at a time."""
        self._check_net(net)
        if len(self._known) > MOST_KEPT:
            self._known = {}
        return self._found(net, time, self._known)

    def _store_all(self):
        """Stores the bits of all edges of all registers."""
        edges = [(output.shown_time(k), r, k) for r, output in enumerate(self._outputs)
                 for k in range(1, self._many + 1)]
        # Since hold is less than out high, what an edge stores depends only on such edges
        # whose bits are shown before its own.
        for _, r, k in sorted(edges):
            self._outputs[r].store(self._seen(r, k))

    def _seen(self, r, k):
        """What a register stores at its k-th edge."""
        _, net, _, _, setup, hold, _ = self._regs[r]
        time = self._outputs[r].edge_time(k)
        bit = self.value(net, time - setup)
        for moment in range(time - setup + 1, time + hold + 1):
            if self.value(net, moment) != bit:
                return self._guesses[r][k % len(self._guesses[r])]
        return bit


def _check_counts(circuit, rows, edges, shakes, guesses):
    inputs, _, regs, _ = circuit
    if len(edges) != len(regs) or len(shakes) != len(sources(circuit)) or len(guesses) != len(regs):
        raise WrongCount("there is not one list for each reg or source")
    if min([len(row) for row in [*edges, *shakes, *guesses]], default=1) == 0:
        raise WrongCount("a list is empty")
    for row in rows:
        if len(row) != len(inputs):
            raise WrongCount("a row has not one value for each input")


def _check_edges(regs, edges):
    for reg, row in zip(regs, edges):
        low, high = reg[2]
        if min(row) < low or max(row) > high:
            raise BadRange(f"an edge of reg {reg[0]} is out of its range")
