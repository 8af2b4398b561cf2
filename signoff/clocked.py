"""Clocked circuits: whether each register surely stores the settled value of its net."""

from signoff.arrivals import Arrivals
from signoff.errors import BadArgument, BadRange, Refused, WrongCount
from signoff.settled import Settled


class Clocked:
    """A circuit with a period, and with a pair (since, until) for each input."""

    def __init__(self, circuit, period, holds):
        inputs, _, regs, _ = circuit
        if len(holds) != len(inputs):
            raise WrongCount("there is not one pair for each input")
        if period < 1:
            raise BadArgument("the period is less than 1")
        for since, until in holds:
            if until > since:
                raise BadRange("the until of an input is greater than its since")
        for reg in regs:
            low, high = reg[2]
            if high - low >= period:
                raise BadRange(f"the edge range of reg {reg[0]} is not narrower than the period")
        self._circuit = circuit
        self._period = period
        self._holds = [tuple(pair) for pair in holds]
        windows = self.windows(0)
        self._settled = Settled(circuit, windows)
        self._since_arrivals = Arrivals(circuit, [(since, since) for since, _ in windows])
        self._until_arrivals = Arrivals(circuit, [(until, until) for _, until in windows])

    @property
    def period(self):
        """The time from one cycle to the next one."""
        return self._period

    def circuit(self):
        """The circuit."""
        return self._circuit

    def holds(self):
        """The list of the pairs (since, until) of the inputs."""
        return list(self._holds)

    def windows(self, cycle):
        """The list of the windows in which the sources surely show their values of a cycle."""
        if cycle < 0:
            raise BadArgument("cycles are numbered from 0")
        begin = cycle * self._period
        end = begin + self._period
        found = [(begin + since, end + until) for since, until in self._holds]
        for _, _, edge, out, _, _, _ in self._circuit[2]:
            found.append((begin + edge[1] + out[1], end + edge[0] + out[0]))
        return found

    def settled(self):
        """The Settled object for the windows of cycle 0."""
        return self._settled

    def needed(self, r):
        """The first and the last time at which the net of a register must be settled in cycle 0."""
        self._check_reg(r)
        _, _, edge, _, setup, hold, _ = self._circuit[2][r]
        return self._period + edge[0] - setup, self._period + edge[1] + hold

    def violations(self):
        """The list of the triples (r, time, vector) of the registers whose nets are loose at a needed time."""
        found = [(r, self._violation(r)) for r in range(len(self._circuit[2]))]
        return [(r, *violation) for r, violation in found if violation is not None]

    def is_clean(self):
        """Whether there are no violations."""
        return len(self.violations()) == 0

    def witness(self, r):
        """A run in which the net of a register does not have its settled value at the time of its violation."""
        self._check_reg(r)
        violation = self._violation(r)
        if violation is None:
            raise Refused("the reg has no violation")
        time, vector = violation
        return self._settled.witness(self._net(r), time, vector)

    def margins(self, r):
        """The setup margin and the hold margin of a register, None where its net has no arrivals."""
        first, last = self.needed(r)
        late = self._since_arrivals.late(self._net(r))
        early = self._until_arrivals.early(self._net(r))
        setup = None if late is None else first - late
        hold = None if early is None else early - last - 1
        return setup, hold

    def _check_reg(self, r):
        if r < 0 or r >= len(self._circuit[2]):
            raise BadArgument("there is no such reg")

    def _net(self, r):
        """The net that a register stores."""
        return self._circuit[2][r][1]

    def _violation(self, r):
        """The least needed time at which the net of a register is loose, and the least vector for it, or None."""
        setup, hold = self.margins(r)
        if (setup is None or setup >= 0) and (hold is None or hold >= 0):
            # Then the net is settled when it must be; to compute when it is settled may take much longer.
            return None
        first, last = self.needed(r)
        time = self._settled.first_loose(self._net(r), first, last)
        return None if time is None else (time, self._settled.loose_vector(self._net(r), time))
