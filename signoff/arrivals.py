"""Arrivals of changes at the nets of a circuit, and the paths on which they come."""

from heapq import heapify, heappop, heappush

from signoff.circuits import check_nets, check_pin_range, gate_order, sources, with_ranges
from signoff.errors import BadArgument, BadRange, UnknownName, WrongCount


class Arrivals:
    """The arrivals of all nets of a circuit, which follow the changes of ranges and starts."""

    def __init__(self, circuit, starts):
        roots = sources(circuit)
        if len(starts) != len(roots):
            raise WrongCount("there is not one start for each source")
        for pair in starts:
            _check_start(pair)
        self._circuit = circuit
        self._roots = roots
        self._starts = [tuple(pair) for pair in starts]
        self._ranges = [list(gate[3]) for gate in circuit[1]]
        self._order = gate_order(circuit)
        self._places = {g: place for place, g in enumerate(self._order)}
        self._followers = _gates_by_net(circuit)
        # For each net its pair of arrivals, None if it has none.
        self._pairs = {net: pair for net, pair in zip(roots, self._starts)}
        for g in self._order:
            self._pairs[circuit[1][g][0]] = self._computed(g)
        self._touched = 0

    @property
    def touched(self):
        """How many gates were computed again by the last change."""
        return self._touched

    def early(self, net):
        """The early arrival of a net, None if it has none."""
        self._check_net(net)
        return None if self._pairs[net] is None else self._pairs[net][0]

    def late(self, net):
        """The late arrival of a net, None if it has none."""
        self._check_net(net)
        return None if self._pairs[net] is None else self._pairs[net][1]

    def paths(self, net):
        """All paths to a net in the worst order."""
        self._check_net(net)
        ahead = self._ahead(net)
        steps = self._steps(ahead)
        queue = []
        for k, root in enumerate(self._roots):
            if root in ahead:
                heappush(queue, (-self._starts[k][1] - ahead[root], (k, ()), root))
        # The best that a beginning of a path can become leads to the paths in their order. No
        # beginning in the queue begins with another one, so the lesser one has the lesser paths.
        while queue:
            cost, (k, pins), last = heappop(queue)
            if last == net:
                yield k, pins
            else:
                for pin, loss, following in steps[last]:
                    heappush(queue, (cost + loss, (k, pins + (pin,)), following))

    def worst_paths(self, net, many):
        """The list of the first paths to a net in the worst order."""
        if many < 0:
            raise BadArgument("a number of paths is negative")
        self._check_net(net)
        found = []
        if many == 0:
            return found
        for path in self.paths(net):
            found.append(path)
            if len(found) == many:
                break
        return found

    def count_paths(self, net):
        """The number of paths to a net."""
        self._check_net(net)
        numbers = {root: 1 for root in self._roots}
        for g in self._order:
            name, _, nets, _ = self._circuit[1][g]
            numbers[name] = sum([numbers[other] for other in nets])
        return numbers[net]

    def required(self, limits):
        """The dictionary from all nets to their required times, None where there is none."""
        check_nets(self._circuit, list(limits))
        times = {net: limits.get(net) for net in self._pairs}
        for g in reversed(self._order):
            name, _, nets, _ = self._circuit[1][g]
            if times[name] is not None:
                for net, (_, high) in zip(nets, self._ranges[g]):
                    time = times[name] - high
                    if times[net] is None or times[net] > time:
                        times[net] = time
        return times

    def slack(self, net, limits):
        """The required time of a net minus its late arrival, None if one of them is None."""
        self._check_net(net)
        time = self.required(limits)[net]
        if time is None or self._pairs[net] is None:
            return None
        return time - self._pairs[net][1]

    def set_range(self, gate, pin, low, high):
        """Gives a pin another range, and brings all arrivals up to date."""
        if gate < 0 or gate >= len(self._ranges) or pin < 0 or pin >= len(self._ranges[gate]):
            raise BadArgument("there is no such pin")
        check_pin_range((low, high))
        self._ranges[gate][pin] = (low, high)
        self._compute_again([gate])

    def set_start(self, k, early, late):
        """Gives a source another start, and brings all arrivals up to date."""
        if k < 0 or k >= len(self._starts):
            raise BadArgument("there is no such source")
        _check_start((early, late))
        root = self._roots[k]
        has_changed = self._starts[k] != (early, late)
        self._starts[k] = (early, late)
        self._pairs[root] = (early, late)
        self._compute_again(self._followers[root] if has_changed else [])

    def present(self):
        """The circuit with the present ranges."""
        return with_ranges(self._circuit, self._ranges)

    def starts(self):
        """The list of the present starts."""
        return list(self._starts)

    def _check_net(self, net):
        if net not in self._pairs:
            raise UnknownName(f"{net} is not a net")

    def _computed(self, g):
        """The arrivals of a gate by those of its nets."""
        nets = self._circuit[1][g][2]
        known = [(self._pairs[net], pair) for net, pair in zip(nets, self._ranges[g]) if self._pairs[net] is not None]
        if not known:
            return None
        return min([pair[0] + low for pair, (low, _) in known]), max([pair[1] + high for pair, (_, high) in known])

    def _compute_again(self, gates):
        """Computes the arrivals of gates again, and of each that reads a net whose arrivals have changed."""
        queue = [self._places[g] for g in gates]
        heapify(queue)
        queued = set(queue)
        self._touched = 0
        # In the order of the gates, each gate comes when all that it reads is up to date.
        while queue:
            g = self._order[heappop(queue)]
            self._touched += 1
            name = self._circuit[1][g][0]
            pair = self._computed(g)
            if pair != self._pairs[name]:
                self._pairs[name] = pair
                for follower in self._followers[name]:
                    if self._places[follower] not in queued:
                        queued.add(self._places[follower])
                        heappush(queue, self._places[follower])

    def _ahead(self, net):
        """For each net from which a path leads to a net, the greatest sum of highs on the way."""
        found = {net: 0}
        for g in reversed(self._order):
            name, _, nets, _ = self._circuit[1][g]
            if name in found:
                for other, (_, high) in zip(nets, self._ranges[g]):
                    found[other] = max(found.get(other, 0), found[name] + high)
        return found

    def _steps(self, ahead):
        """For each net, the pins that read it on the way: the pin, what is lost by it, and its gate's net."""
        found = {net: [] for net in ahead}
        for g, (name, _, nets, _) in enumerate(self._circuit[1]):
            if name in ahead:
                for pin, net in enumerate(nets):
                    loss = ahead[net] - self._ranges[g][pin][1] - ahead[name]
                    found[net].append(((g, pin), loss, name))
        return found


def _check_start(pair):
    early, late = pair
    if early > late:
        raise BadRange("the early of a start is greater than its late")


def _gates_by_net(circuit):
    """For each net the ascending list of the gates that read it."""
    found = {root: [] for root in sources(circuit)}
    for name, _, _, _ in circuit[1]:
        found[name] = []
    for g, gate in enumerate(circuit[1]):
        for net in sorted(set(gate[2])):
            found[net].append(g)
    return found
