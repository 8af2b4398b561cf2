"""The values that the nets of a circuit have at single times, when the delays are given."""

from signoff.errors import BadRange, UnknownName, WrongCount
from signoff.tables import look_up


class Playback:
    """Finds the values of nets at times.

    `roots` has for the name of each source an object with a method `value_at(time)`. `delays`
    has one list for each pin of each gate, whose item with the index time modulo the length is
    the delay of the pin at this time. A spot is a net with a time.
    """

    def __init__(self, circuit, roots, delays):
        self._roots = roots
        self._gates = {}
        for (name, table, nets, _), rows in zip(circuit[1], delays):
            self._gates[name] = (table, [(net, list(row)) for net, row in zip(nets, rows)])

    def _check_net(self, net):
        if net not in self._roots and net not in self._gates:
            raise UnknownName(f"{net} is not a net")

    def _spot(self, net, time):
        """The spot whose value is looked at for a net at a time; a class below may take an equal one."""
        return net, time

    def _found(self, net, time, known):
        """The value of a net at a time; `known` keeps the values of all spots that were looked at."""
        goal = self._spot(net, time)
        waiting = [goal]
        while waiting:
            spot = waiting.pop()
            if spot in known:
                continue
            missing = [cause for cause in self._causes(spot) if cause not in known]
            if missing:
                # The spot comes up again when what it needs is known.
                waiting.append(spot)
                waiting.extend(missing)
            else:
                known[spot] = self._plain_value(spot, known)
        return known[goal]

    def _causes(self, spot):
        """The spots whose values the value of a spot is computed from."""
        net, time = spot
        if net in self._roots:
            return []
        return [self._spot(other, time - row[time % len(row)]) for other, row in self._gates[net][1]]

    def _plain_value(self, spot, known):
        """The value of a spot, when those of its causes are known."""
        net, time = spot
        if net in self._roots:
            return self._roots[net].value_at(time)
        return look_up(self._gates[net][0], [known[cause] for cause in self._causes(spot)])


def check_delay_counts(circuit, delays):
    """Raises WrongCount if there is not one list of one or more delays for each pin of each gate."""
    gates = circuit[1]
    if len(delays) != len(gates):
        raise WrongCount("there is not one list of delays for each gate")
    for gate, rows in zip(gates, delays):
        if len(rows) != len(gate[2]) or min([len(row) for row in rows], default=1) == 0:
            raise WrongCount(f"there is not one list of delays for each pin of gate {gate[0]}")


def check_delays(circuit, delays):
    """Raises BadRange if a delay is out of the range of its pin."""
    for gate, rows in zip(circuit[1], delays):
        for (low, high), row in zip(gate[3], rows):
            if min(row) < low or max(row) > high:
                raise BadRange(f"a delay of gate {gate[0]} is out of its range")
