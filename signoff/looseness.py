"""At which times, and for which vectors, the nets of a circuit are loose."""

from signoff.ascending import count_until
from signoff.circuits import gate_order, sources
from signoff.diagrams import FALSE, TRUE


class Timeline:
    """A reference of a Diagrams object for each time.

    The reference with the index k is that of the times from times[k - 1] on and before times[k].
    """

    def __init__(self, times, references):
        kept = [k for k in range(len(times)) if references[k] != references[k + 1]]
        self.times = [times[k] for k in kept]
        self.references = [references[0]] + [references[k + 1] for k in kept]

    def piece_at(self, time):
        """The index of the reference of a time."""
        return count_until(self.times, time)

    def reference_at(self, time):
        """The reference of a time."""
        return self.references[self.piece_at(time)]

    def shown(self, low, high):
        """The list of the references of the times from low to high."""
        return self.references[self.piece_at(low):self.piece_at(high) + 1]

    def turns(self, low, high):
        """The list of the times behind low and until high at which the reference changes."""
        return self.times[self.piece_at(low):self.piece_at(high)]

    def first_loose(self, low, high):
        """The least time from low to high whose reference is not FALSE, None if there is none."""
        for time in [low] + self.turns(low, high):
            if self.reference_at(time) != FALSE:
                return time
        return None


class Looseness:
    """For each net a timeline: the functions whose value is whether the net is loose.

    `roots` are the settled values of the sources as functions: variables, which gives the
    looseness for all vectors at once, or constants, which gives it for one vector.
    """

    def __init__(self, circuit, windows, diagrams, roots):
        self._diagrams = diagrams
        self._gates = [circuit[1][g] for g in gate_order(circuit)]
        self._functions = {net: root for net, root in zip(sources(circuit), roots)}
        self._timelines = {net: _of_window(window) for net, window in zip(sources(circuit), windows)}

    def timeline(self, net):
        """The timeline of a net. It is computed when it is needed first, since functions may be large."""
        if net not in self._timelines:
            for name, table, nets, ranges in self._missing(net):
                functions = [self._functions[other] for other in nets]
                self._functions[name] = self._diagrams.applied(table, functions)
                pins = [self._widened(self._timelines[other], pair) for other, pair in zip(nets, ranges)]
                self._timelines[name] = self._gate_timeline(table, functions, pins)
        return self._timelines[net]

    def _missing(self, net):
        """The gates without a timeline on which a net depends, each behind those that it reads."""
        needed = {net: True}
        found = []
        for gate in reversed(self._gates):
            if gate[0] in needed and gate[0] not in self._timelines:
                found.append(gate)
                needed.update({other: True for other in gate[2]})
        return found[::-1]

    def _widened(self, timeline, pair):
        """When a pin is not known, for the timeline of its net and its range."""
        low, high = pair
        times = sorted({time + delay for time in timeline.times for delay in pair})
        references = timeline.references[:1]
        for time in times:
            references.append(self._diagrams.any_of(timeline.shown(time - high, time - low)))
        return Timeline(times, references)

    def _gate_timeline(self, table, functions, pins):
        """The timeline of a gate, for the functions of its nets and the timelines of its pins."""
        times = sorted({time for pin in pins for time in pin.times})
        unknown = [[pin.references[0] for pin in pins]]
        unknown.extend([[pin.reference_at(time) for pin in pins] for time in times])
        return Timeline(times, [self._loose(table, functions, row) for row in unknown])

    def _loose(self, table, functions, unknown):
        """When both values of a table are possible, where each input has its value or is unknown."""
        rows = [TRUE if value else FALSE for value in table]
        others = [FALSE if value else TRUE for value in table]
        for function, doubt in zip(functions, unknown):
            rows = self._without_input(rows, function, doubt)
            others = self._without_input(others, function, doubt)
        return self._diagrams.both(rows[0], others[0])

    def _without_input(self, rows, function, doubt):
        """For the other inputs, when a value is possible, where `rows` tell it for all inputs.

        The first input is True in every second row.
        """
        found = []
        for k in range(0, len(rows), 2):
            known = self._diagrams.choose(function, rows[k + 1], rows[k])
            either = self._diagrams.either(rows[k], rows[k + 1])
            found.append(self._diagrams.choose(doubt, either, known))
        return found


def _of_window(window):
    """The timeline of a source, which is loose outside of its window."""
    since, until = window
    if since is not None and until is not None and since >= until:
        return Timeline([], [TRUE])
    times = [time for time in window if time is not None]
    references = ([] if since is None else [TRUE]) + [FALSE] + ([] if until is None else [TRUE])
    return Timeline(times, references)
