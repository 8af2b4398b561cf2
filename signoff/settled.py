"""The times at which the nets of a circuit have their settled values, whatever the delays are."""

from signoff.circuits import sources
from signoff.diagrams import FALSE, TRUE, Diagrams
from signoff.errors import Refused, UnknownName, WrongCount
from signoff.looseness import Looseness
from signoff.witnesses import Witness, loose_trail

# How many vectors an object remembers the looseness for.
MOST_KEPT = 64


class Settled:
    """Tells when the nets of a circuit are settled, for the windows of its sources."""

    def __init__(self, circuit, windows):
        roots = sources(circuit)
        if len(windows) != len(roots):
            raise WrongCount("there is not one window for each source")
        self._circuit = circuit
        self._windows = [tuple(window) for window in windows]
        self._nets = {net: True for net in roots + [gate[0] for gate in circuit[1]]}
        self._many = len(roots)
        self._diagrams = Diagrams()
        variables = [self._diagrams.variable(k) for k in range(self._many)]
        self._looseness = Looseness(circuit, self._windows, self._diagrams, variables)
        # The looseness for single vectors, since questions about one vector often come together.
        self._kept = {}

    def is_settled(self, net, time, vector):
        """Whether a net is settled at a time for a vector."""
        return self._for_vector(net, vector).timeline(net).reference_at(time) == FALSE

    def is_sure(self, net, time):
        """Whether a net is settled at a time for all vectors."""
        return self._reference(net, time) == FALSE

    def loose_vector(self, net, time):
        """The least vector for which a net is loose at a time, None if there is none."""
        return self._diagrams.least(self._reference(net, time), self._many)

    def first_loose(self, net, low, high):
        """The least time from low to high at which a net is loose for some vector, None if there is none."""
        self._check_net(net)
        return self._looseness.timeline(net).first_loose(low, high)

    def count_loose(self, net, time):
        """The number of vectors for which a net is loose at a time."""
        return self._diagrams.count(self._reference(net, time), self._many)

    def late(self, net):
        """The least time from which on a net is always settled for all vectors, None if it always is."""
        self._check_net(net)
        return self._last_turn(self._looseness, net)

    def late_for(self, net, vector):
        """The least time from which on a net is always settled for a vector, None if it always is."""
        return self._last_turn(self._for_vector(net, vector), net)

    def early(self, net):
        """The least time at which a net is loose for some vector, None if there is none."""
        self._check_net(net)
        return self._first_turn(self._looseness, net)

    def early_for(self, net, vector):
        """The least time at which a net is loose for a vector, None if there is none."""
        return self._first_turn(self._for_vector(net, vector), net)

    def witness(self, net, time, vector):
        """A run that respects the vector and the windows, and in which the net has its other value at the time."""
        looseness = self._loose_for_vector(net, time, vector)
        return Witness(self._circuit, vector, looseness).run(net, time)

    def trail(self, net, time, vector):
        """The list of pairs (net, time) that shows why a net is loose."""
        return loose_trail(self._circuit, self._loose_for_vector(net, time, vector), net, time)

    def _check_net(self, net):
        if net not in self._nets:
            raise UnknownName(f"{net} is not a net")

    def _for_vector(self, net, vector):
        """The looseness for one vector; raises the errors for the vector and the net."""
        if len(vector) != self._many:
            raise WrongCount("there is not one value for each source")
        self._check_net(net)
        key = tuple(vector)
        if key not in self._kept:
            if len(self._kept) >= MOST_KEPT:
                self._kept = {}
            constants = [TRUE if bit else FALSE for bit in key]
            self._kept[key] = Looseness(self._circuit, self._windows, self._diagrams, constants)
        return self._kept[key]

    def _loose_for_vector(self, net, time, vector):
        """The looseness for one vector, for which the net must be loose at the time."""
        looseness = self._for_vector(net, vector)
        if looseness.timeline(net).reference_at(time) == FALSE:
            raise Refused(f"net {net} is settled")
        return looseness

    def _reference(self, net, time):
        """The function whose value is whether a net is loose at a time."""
        self._check_net(net)
        return self._looseness.timeline(net).reference_at(time)

    def _last_turn(self, looseness, net):
        """The time from which on a net is settled, where all windows are without an end."""
        if any([until is not None for _, until in self._windows]):
            raise Refused("a window has a last time")
        times = looseness.timeline(net).times
        return times[-1] if times else None

    def _first_turn(self, looseness, net):
        """The first time at which a net is loose, where all windows are without a beginning."""
        if any([since is not None for since, _ in self._windows]):
            raise Refused("a window has a first time")
        times = looseness.timeline(net).times
        return times[0] if times else None
