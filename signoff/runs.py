"""Runs of a circuit: what its nets show for given waveforms and delays."""

from signoff.ascending import count_until
from signoff.circuits import gate_order, sources
from signoff.errors import BadRange, UnknownName, WrongCount
from signoff.meaning import settle
from signoff.tables import look_up
from signoff.waveforms import holds

MOST_SPANS = 100


class Run:
    """A run of a circuit.

    The spans of a net are pairs (first, last) of times. A net surely changes at no time
    outside of its spans. So only times within spans need to be looked at one by one.
    """

    def __init__(self, circuit, waves, delays):
        _check_counts(circuit, waves, delays)
        _check_delays(circuit, delays)
        self._waves = list(waves)
        self._roots = {net: wave for net, wave in zip(sources(circuit), waves)}
        self._gates = {}
        for (name, table, nets, _), rows in zip(circuit[1], delays):
            self._gates[name] = (table, [(net, list(row)) for net, row in zip(nets, rows)])
        self._before = settle(circuit, [wave.start for wave in waves])
        self._spans = {net: [(time, time) for time in wave.changes()] for net, wave in self._roots.items()}
        for g in gate_order(circuit):
            self._spans[circuit[1][g][0]] = self._gate_spans(circuit[1][g][0])
        self._firsts = {net: [first for first, _ in spans] for net, spans in self._spans.items()}

    def value(self, net, time):
        """The value of a net at a time."""
        self._check_net(net)
        return self._found(net, time, {})

    def bits(self, net, low, high):
        """The list of the values of a net at all times from low to high."""
        self._check_net(net)
        known = {}
        return [self._found(net, time, known) for time in range(low, high + 1)]

    def first_change(self, net, low, high):
        """The least time behind low and until high at which a net changes, or None."""
        self._check_net(net)
        known = {}
        for first, last in self._spans[net]:
            for time in range(max(first, low + 1), min(last, high) + 1):
                if self._found(net, time, known) != self._found(net, time - 1, known):
                    return time
        return None

    def last_change(self, net, low, high):
        """The greatest time behind low and until high at which a net changes, or None."""
        self._check_net(net)
        known = {}
        for first, last in reversed(self._spans[net]):
            for time in range(min(last, high), max(first, low + 1) - 1, -1):
                if self._found(net, time, known) != self._found(net, time - 1, known):
                    return time
        return None

    def respects(self, vector, windows):
        """Whether each source has its value of the vector at all times of its window."""
        return all([holds(wave, value, window) for wave, value, window in zip(self._waves, vector, windows)])

    def _check_net(self, net):
        if net not in self._before:
            raise UnknownName(f"{net} is not a net")

    def _gate_spans(self, name):
        """The spans of a gate, when those of its nets are known."""
        moved = [(first + min(row), last + max(row)) for net, row in self._gates[name][1]
                 for first, last in self._spans[net]]
        spans = []
        for first, last in sorted(moved):
            if spans and first <= spans[-1][1] + 1:
                spans[-1] = (spans[-1][0], max(last, spans[-1][1]))
            else:
                spans.append((first, last))
        # Wider spans are also right; without a limit there could be one for each path.
        while len(spans) > MOST_SPANS:
            spans = [(spans[k][0], spans[min(k + 1, len(spans) - 1)][1]) for k in range(0, len(spans), 2)]
        return spans

    def _spot(self, net, time):
        """A net and the least time from which on it surely has the value that it has at a time.

        The time is None if the net has not changed before.
        """
        many = count_until(self._firsts[net], time)
        return net, min(time, self._spans[net][many - 1][1]) if many > 0 else None

    def _found(self, net, time, known):
        """The value of a net at a time; `known` keeps the values of all spots that were looked at."""
        goal = self._spot(net, time)
        waiting = [goal]
        while waiting:
            spot = waiting.pop()
            if spot in known:
                continue
            missing = [cause for cause in self._causes(spot) if cause not in known]
            if missing:
                # The spot comes up again when what it needs is known.
                waiting.append(spot)
                waiting.extend(missing)
            else:
                known[spot] = self._plain_value(spot, known)
        return known[goal]

    def _causes(self, spot):
        """The spots whose values the value of a spot is computed from."""
        net, time = spot
        if time is None or net in self._roots:
            return []
        return [self._spot(other, time - row[time % len(row)]) for other, row in self._gates[net][1]]

    def _plain_value(self, spot, known):
        """The value of a spot, when those of its causes are known."""
        net, time = spot
        if time is None:
            return self._before[net]
        if net in self._roots:
            return self._roots[net].value_at(time)
        return look_up(self._gates[net][0], [known[cause] for cause in self._causes(spot)])


def _check_counts(circuit, waves, delays):
    gates = circuit[1]
    if len(waves) != len(sources(circuit)) or len(delays) != len(gates):
        raise WrongCount("there is not one waveform for each source, or not one list for each gate")
    for gate, rows in zip(gates, delays):
        if len(rows) != len(gate[2]) or min([len(row) for row in rows], default=1) == 0:
            raise WrongCount(f"there is not one list of delays for each pin of gate {gate[0]}")


def _check_delays(circuit, delays):
    for gate, rows in zip(circuit[1], delays):
        for (low, high), row in zip(gate[3], rows):
            if min(row) < low or max(row) > high:
                raise BadRange(f"a delay of gate {gate[0]} is out of its range")
