"""Runs in which a loose net has its other value, and the way on which it becomes loose."""

from signoff.circuits import gate_order, sources
from signoff.diagrams import FALSE
from signoff.meaning import settle
from signoff.runs import Run
from signoff.waveforms import Waveform


class Witness:
    """Builds a run in which a net has its other value at a time at which it is loose.

    The run is built so that all loose nets show values by one pattern (see `shown`), which has
    both values in any three successive times that are not all settled. So a pin that is not
    known can see either value, since its range has three delays or more. Only those values are
    wanted that the net needs in the end: at known pins, and at settled times, the right value
    comes by itself.
    """

    def __init__(self, circuit, vector, looseness):
        self._circuit = circuit
        self._looseness = looseness
        self._settled = settle(circuit, vector)
        # For each net the values that it must show, and for each pin the delays: both by the times.
        self._wanted = {net: {} for net in self._settled}
        self._chosen = [[{} for _ in gate[2]] for gate in circuit[1]]

    def run(self, net, time):
        """The run."""
        self._wanted[net][time] = not self._settled[net]
        for g in reversed(gate_order(self._circuit)):
            wanted = self._wanted[self._circuit[1][g][0]]
            for moment in sorted(wanted):
                self._want_at_pins(g, moment, wanted[moment])
        waves = [self._wave(root) for root in sources(self._circuit)]
        delays = [[_as_list(chosen, low) for chosen, (low, _) in zip(row, gate[3])]
                  for row, gate in zip(self._chosen, self._circuit[1])]
        return Run(self._circuit, waves, delays)

    def shown(self, net, time):
        """The value that a net shows at a time by the pattern.

        A longest stretch of loose times has the other value at its ends, and every second time between.
        """
        since, until = self._stretch(net, time)
        if since is not None:
            steps = time - since
        elif until is not None:
            steps = until - 1 - time
        else:
            steps = time
        is_other = steps & 1 == 0 or (until is not None and time == until - 1)
        return self._settled[net] != (self._is_loose(net, time) and is_other)

    def _is_loose(self, net, time):
        return self._looseness.timeline(net).reference_at(time) != FALSE

    def _stretch(self, net, time):
        """The longest window around a time in which a net is always loose or always settled."""
        timeline = self._looseness.timeline(net)
        k = timeline.piece_at(time)
        return (timeline.times[k - 1] if k > 0 else None), (timeline.times[k] if k < len(timeline.times) else None)

    def _want_at_pins(self, g, time, value):
        """Chooses what the pins of a gate see at a time, so that the gate has the value."""
        _, table, nets, ranges = self._circuit[1][g]
        settled = [self._settled[net] for net in nets]
        doubts = [self._looseness.timeline(net).first_loose(time - high, time - low) is not None
                  for net, (low, high) in zip(nets, ranges)]
        for pin, bit in enumerate(_least_change(table, value, settled, doubts)):
            if doubts[pin]:
                low, high = ranges[pin]
                moment = self._moment(nets[pin], bit, time - high, time - low)
                self._chosen[g][pin][time] = time - moment
                if self._is_loose(nets[pin], moment):
                    self._wanted[nets[pin]][moment] = bit

    def _moment(self, net, value, low, high):
        """A time from low to high at which a net shows a value, if it can be a settled one."""
        # A settled time is followed by a turn to a loose one. Two loose times show both values, or
        # they are the last of their stretch and a turn to a settled one follows.
        times = [low, low + 1] + self._looseness.timeline(net).turns(low, high)
        showing = [time for time in times if self.shown(net, time) == value]
        for time in showing:
            if not self._is_loose(net, time):
                return time
        return showing[0]

    def _wave(self, root):
        """The waveform of a source: its value in the vector, but where it must show the other one."""
        wave = Waveform(self._settled[root], [])
        for time in sorted(self._wanted[root]):
            if self._wanted[root][time] != self._settled[root]:
                wave = wave ^ Waveform(False, [time, time + 1])
        return wave


def loose_trail(circuit, looseness, net, time):
    """The list of the pairs (net, time) that lead from a source to a net that is loose at a time."""
    gates = {gate[0]: gate for gate in circuit[1]}
    found = [(net, time)]
    while found[-1][0] in gates:
        name, moment = found[-1]
        _, _, nets, ranges = gates[name]
        for other, (low, high) in zip(nets, ranges):
            cause = looseness.timeline(other).first_loose(moment - high, moment - low)
            if cause is not None:
                found.append((other, cause))
                break
    return found[::-1]


def _least_change(table, value, settled, doubts):
    """The bits of a row of a table that has a value.

    Only inputs that are in doubt differ from the settled ones, and as few as possible.
    """
    best = None
    for row, one in enumerate(table):
        bits = [(row >> k) & 1 == 1 for k in range(len(settled))]
        changed = [k for k, bit in enumerate(bits) if bit != settled[k]]
        if one == value and all([doubts[k] for k in changed]) and (best is None or len(changed) < best[0]):
            best = (len(changed), bits)
    return best[1]


def _as_list(chosen, low):
    """The shortest list of delays that has all chosen ones.

    The item with the index time modulo the length is the delay at this time, the low if none was chosen.
    """
    many = 1
    while not _fits(chosen, many):
        many += 1
    row = [low] * many
    for time, delay in chosen.items():
        row[time % many] = delay
    return row


def _fits(chosen, many):
    """Whether no two times with different delays have the same remainder."""
    kept = {}
    for time, delay in chosen.items():
        if kept.setdefault(time % many, delay) != delay:
            return False
    return True
