"""Circuits with other ranges: with wires, with wider ranges, and of several corners."""

from signoff.circuits import check_nets, with_ranges
from signoff.errors import BadArgument


def loaded(circuit, wires, *, unit=1):
    """The circuit with the delays of wires added to the ranges of the pins that they reach."""
    check_nets(circuit, list(wires))
    if unit < 1:
        raise BadArgument("the unit is less than 1")
    delays = {}
    for net, (tree, taps) in wires.items():
        for (g, pin), node in taps.items():
            _check_connected(circuit, net, g, pin)
            delays[g, pin] = tree.delay_range(node, unit=unit)
    rows = [[_added(pair, delays.get((g, pin), (0, 0))) for pin, pair in enumerate(gate[3])]
            for g, gate in enumerate(circuit[1])]
    return with_ranges(circuit, rows)


def derated(circuit, early, late):
    """The circuit with its lows multiplied by one ratio and its highs by another."""
    least, under = early
    most, below = late
    if under < 1 or below < 1 or least < 0 or least > under or most < below:
        raise BadArgument("a ratio is not allowed")
    rows = [[(low * least // under, -(-high * most // below)) for low, high in gate[3]] for gate in circuit[1]]
    return with_ranges(circuit, rows)


def merged(circuits):
    """The circuit whose ranges are the least ones that contain those of some circuits that are alike."""
    if len(circuits) == 0:
        raise BadArgument("there is no circuit")
    for other in circuits:
        if not _alike(circuits[0], other):
            raise BadArgument("the circuits are not alike")
    columns = [circuit[1] for circuit in circuits]
    return with_ranges(circuits[0], [_joined_ranges(gates) for gates in zip(*columns)])


def within(circuit, other):
    """Whether two circuits are alike, and each range of the first one lies in that of the second one."""
    if not _alike(circuit, other):
        return False
    for gate, wider in zip(circuit[1], other[1]):
        for (low, high), (least, most) in zip(gate[3], wider[3]):
            if low < least or high > most:
                return False
    return True


def _check_connected(circuit, net, g, pin):
    gates = circuit[1]
    if g < 0 or g >= len(gates) or pin < 0 or pin >= len(gates[g][2]) or gates[g][2][pin] != net:
        raise BadArgument(f"a pin is not connected to {net}")


def _joined_ranges(gates):
    """The ranges from the least low to the greatest high that the pins of some gates have."""
    columns = [gate[3] for gate in gates]
    return [(min([low for low, _ in pairs]), max([high for _, high in pairs])) for pairs in zip(*columns)]


def _added(pair, delay):
    return pair[0] + delay[0], pair[1] + delay[1]


def _alike(circuit, other):
    return _without_ranges(circuit) == _without_ranges(other)


def _without_ranges(circuit):
    inputs, gates, regs, outputs = circuit
    return inputs, [gate[:3] for gate in gates], regs, outputs
