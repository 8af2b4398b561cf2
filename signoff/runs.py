"""Runs of a circuit: what its nets show for given waveforms and delays."""

from signoff.ascending import count_until
from signoff.circuits import gate_order, sources
from signoff.errors import WrongCount
from signoff.meaning import settle
from signoff.playback import Playback, check_delay_counts, check_delays
from signoff.waveforms import holds

MOST_SPANS = 100


class Run(Playback):
    """A run of a circuit.

    The spans of a net are pairs (first, last) of times. A net surely changes at no time
    outside of its spans. So only times within spans need to be looked at one by one.
    """

    def __init__(self, circuit, waves, delays):
        roots = sources(circuit)
        if len(waves) != len(roots):
            raise WrongCount("there is not one waveform for each source")
        check_delay_counts(circuit, delays)
        check_delays(circuit, delays)
        super().__init__(circuit, {net: wave for net, wave in zip(roots, waves)}, delays)
        self._waves = list(waves)
        self._before = settle(circuit, [wave.start for wave in waves])
        self._spans = {net: [(time, time) for time in wave.changes()] for net, wave in self._roots.items()}
        for g in gate_order(circuit):
            self._spans[circuit[1][g][0]] = self._gate_spans(circuit[1][g][0])
        self._firsts = {net: [first for first, _ in spans] for net, spans in self._spans.items()}

    def value(self, net, time):
        """The value of a net at a time."""
        self._check_net(net)
        return self._found(net, time, {})

    def bits(self, net, low, high):
        """The list of the values of a net at all times from low to high."""
        self._check_net(net)
        known = {}
        return [self._found(net, time, known) for time in range(low, high + 1)]

    def first_change(self, net, low, high):
        """The least time behind low and until high at which a net changes, or None."""
        self._check_net(net)
        known = {}
        for first, last in self._spans[net]:
            for time in range(max(first, low + 1), min(last, high) + 1):
                if self._found(net, time, known) != self._found(net, time - 1, known):
                    return time
        return None

    def last_change(self, net, low, high):
        """The greatest time behind low and until high at which a net changes, or None."""
        self._check_net(net)
        known = {}
        for first, last in reversed(self._spans[net]):
            for time in range(min(last, high), max(first, low + 1) - 1, -1):
                if self._found(net, time, known) != self._found(net, time - 1, known):
                    return time
        return None

    def respects(self, vector, windows):
        """Whether each source has its value of the vector at all times of its window."""
        return all([holds(wave, value, window) for wave, value, window in zip(self._waves, vector, windows)])

    def _gate_spans(self, name):
        """The spans of a gate, when those of its nets are known."""
        moved = [(first + min(row), last + max(row)) for net, row in self._gates[name][1]
                 for first, last in self._spans[net]]
        spans = []
        for first, last in sorted(moved):
            if spans and first <= spans[-1][1] + 1:
                spans[-1] = (spans[-1][0], max(last, spans[-1][1]))
            else:
                spans.append((first, last))
        # Wider spans are also right; without a limit there could be one for each path.
        while len(spans) > MOST_SPANS:
            spans = [(spans[k][0], spans[min(k + 1, len(spans) - 1)][1]) for k in range(0, len(spans), 2)]
        return spans

    def _spot(self, net, time):
        """A net and the least time from which on it surely has the value that it has at a time.

        The time is None if the net has not changed before.
        """
        many = count_until(self._firsts[net], time)
        return net, min(time, self._spans[net][many - 1][1]) if many > 0 else None

    def _causes(self, spot):
        return [] if spot[1] is None else super()._causes(spot)

    def _plain_value(self, spot, known):
        return self._before[spot[0]] if spot[1] is None else super()._plain_value(spot, known)
