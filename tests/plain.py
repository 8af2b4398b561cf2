"""What the points of the document mean, by their plainest words."""

from signoff.tables import forced
from tests.makers import plain_settle, source_names


class PlainSettled:
    """The rule of point 7.1 for one vector, by its words."""

    def __init__(self, circuit, windows, vector):
        self.values = plain_settle(circuit, vector)
        self.windows = dict(zip(source_names(circuit), windows))
        self.gates = {gate[0]: gate for gate in circuit[1]}
        self.known = {}

    def is_settled(self, net, time):
        if net in self.windows:
            since, until = self.windows[net]
            return (since is None or since <= time) and (until is None or time < until)
        if (net, time) not in self.known:
            _, table, nets, ranges = self.gates[net]
            partial = tuple(int(self.values[other]) if self.is_known(other, time, pair) else -1
                            for other, pair in zip(nets, ranges))
            self.known[net, time] = forced(table, partial) is not None
        return self.known[net, time]

    def is_known(self, net, time, pair):
        return all(self.is_settled(net, other) for other in range(time - pair[1], time - pair[0] + 1))


class PlainClockedRun:
    """The values of a clocked run by the words of points 8.1, 8.2 and 8.6."""

    def __init__(self, clocked, rows, edges, shakes, guesses, delays):
        self.inputs, gates, self.regs, _ = clocked.circuit()
        self.period = clocked.period
        self.holds = clocked.holds()
        self.gates = {gate[0]: (gate, lists) for gate, lists in zip(gates, delays)}
        self.places = {net: k for k, net in enumerate(source_names(clocked.circuit()))}
        self.rows, self.edges, self.shakes, self.guesses = rows, edges, shakes, guesses
        self.known = {}

    def edge_time(self, r, k):
        return k * self.period + self.edges[r][k % len(self.edges[r])]

    def stored(self, r, k):
        _, net, _, _, setup, hold, start = self.regs[r]
        if k == 0:
            return start
        if (r, k) not in self.known:
            time = self.edge_time(r, k)
            seen = {self.value(net, moment) for moment in range(time - setup, time + hold + 1)}
            self.known[r, k] = seen.pop() if len(seen) == 1 else self.guesses[r][k % len(self.guesses[r])]
        return self.known[r, k]

    def state(self, k):
        return tuple(self.stored(r, k) for r in range(len(self.regs)))

    def shake(self, net, time):
        row = self.shakes[self.places[net]]
        return row[time % len(row)]

    def value(self, net, time):
        if (net, time) not in self.known:
            self.known[net, time] = self.found(net, time)
        return self.known[net, time]

    def found(self, net, time):
        if net in self.gates:
            (_, table, nets, _), lists = self.gates[net]
            bits = [self.value(other, time - row[time % len(row)]) for other, row in zip(nets, lists)]
            return table[sum(2 ** j for j, bit in enumerate(bits) if bit)]
        place = self.places[net]
        if place < len(self.inputs):
            since, until = self.holds[place]
            for k, row in enumerate(self.rows):
                if k * self.period + since <= time < (k + 1) * self.period + until:
                    return row[place]
            return self.shake(net, time)
        r = place - len(self.inputs)
        low, high = self.regs[r][3]
        begun = [k for k in range(1, len(self.rows) + 1) if self.edge_time(r, k) + low <= time]
        if not begun:
            return self.stored(r, 0)
        return self.shake(net, time) if time < self.edge_time(r, begun[-1]) + high else self.stored(r, begun[-1])
