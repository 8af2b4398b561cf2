"""Circuits rewritten: smaller gates, fewer gates, and registers moved over gates."""

from signoff.circuits import check_circuit, gate_order, sources
from signoff.errors import BadArgument, Refused, TooDeep
from signoff.tables import depends_on, look_up


def simplify(circuit):
    """The circuit whose gates have only pins that can matter."""
    inputs, gates, regs, outputs = circuit
    made = list(gates)
    constants = {}
    for g in gate_order(circuit):
        made[g] = _smaller(gates[g], constants)
        name, table, nets, _ = made[g]
        if len(nets) == 0:
            constants[name] = table[0]
    return inputs, tuple(made), regs, outputs


def tidy(circuit):
    """The circuit without twins and idle gates."""
    inputs, gates, regs, outputs = _without_twins(circuit)
    needed = _needed_nets(gates, regs, outputs)
    return inputs, tuple([gate for gate in gates if gate[0] in needed]), regs, outputs


def move_forward(circuit, g):
    """The circuit with registers moved over a gate."""
    inputs, gates, regs, outputs = circuit
    if g < 0 or g >= len(gates):
        raise BadArgument("there is no such gate")
    name, table, nets, ranges = gates[g]
    by_name = {reg[0]: reg for reg in regs}
    read = [by_name[net] for net in nets if net in by_name]
    _check_move(circuit, gates[g], read)
    moved = (name + "/d", table, tuple([reg[1] for reg in read]), ranges)
    times = read[0][2:6]
    new = (name, moved[0], *times, look_up(table, [reg[6] for reg in read]))
    changed = gates[:g] + (moved,) + gates[g + 1:]
    kept = _without_unread(changed, regs + (new,), outputs, nets)
    found = (inputs, changed, kept, outputs)
    try:
        check_circuit(found)
    except TooDeep:
        raise Refused("a path of the new circuit is too long") from None
    return found


def _smaller(gate, constants):
    """The gate without the pins that are constant or do not matter."""
    # From the last pin on, so that the indexes of the others stay.
    varying = gate
    for pin in range(len(gate[2]) - 1, -1, -1):
        net = gate[2][pin]
        if net in constants:
            varying = _without_pin(varying, pin, constants[net])
    needed = depends_on(varying[1])
    found = varying
    for pin in range(len(varying[2]) - 1, -1, -1):
        if pin not in needed:
            found = _without_pin(found, pin, False)
    return found


def _without_pin(gate, pin, value):
    """The gate without a pin, where the pin has a value."""
    name, table, nets, ranges = gate
    rows = [one for row, one in enumerate(table) if ((row >> pin) & 1 == 1) == value]
    return name, tuple(rows), nets[:pin] + nets[pin + 1:], ranges[:pin] + ranges[pin + 1:]


def _without_twins(circuit):
    """The circuit in which the least of several twins takes the place of the others."""
    inputs, gates, regs, outputs = circuit
    kept = _kept_twins(circuit)
    stays = {net: net for net in sources(circuit)}
    stays.update({gate[0]: gates[other][0] for gate, other in zip(gates, kept)})
    changed = [(name, table, tuple([stays[net] for net in nets]), ranges)
               for g, (name, table, nets, ranges) in enumerate(gates) if kept[g] == g]
    stored = [(reg[0], stays[reg[1]]) + reg[2:] for reg in regs]
    return inputs, tuple(changed), tuple(stored), tuple([(port, stays[net]) for port, net in outputs])


def _kept_twins(circuit):
    """For each gate the least index of it and its twins."""
    # Twins have the same kind: the index of that one of them which came first.
    kinds = {}
    kind_of = {}
    least = {}
    for g in gate_order(circuit):
        name, table, nets, ranges = circuit[1][g]
        key = (table, ranges, tuple([kind_of.get(net, net) for net in nets]))
        kind = kinds.setdefault(key, g)
        kind_of[name] = kind
        least[kind] = min(g, least.get(kind, g))
    return [least[kind_of[gate[0]]] for gate in circuit[1]]


def _needed_nets(gates, regs, outputs):
    """The nets on which a register or an output depends, as the keys of a dictionary."""
    read = {gate[0]: gate[2] for gate in gates}
    waiting = [reg[1] for reg in regs] + [net for _, net in outputs]
    found = {}
    while waiting:
        net = waiting.pop()
        if net not in found:
            found[net] = True
            waiting.extend(read.get(net, ()))
    return found


def _check_move(circuit, gate, read):
    """Raises Refused if the registers that a gate reads cannot be moved over it."""
    name, _, nets, _ = gate
    if len(nets) == 0 or len(read) < len(nets):
        raise Refused(f"gate {name} does not read regs only")
    if any([reg[2:6] != read[0][2:6] for reg in read]):
        raise Refused(f"the regs that gate {name} reads have different times")
    taken = sources(circuit) + [other[0] for other in circuit[1]]
    if name + "/d" in taken:
        raise Refused(f"there is a net {name}/d")


def _without_unread(gates, regs, outputs, names):
    """The registers but for those of these names that nothing reads."""
    read = {net: True for gate in gates for net in gate[2]}
    read.update({reg[1]: True for reg in regs})
    read.update({net: True for _, net in outputs})
    return tuple([reg for reg in regs if reg[0] in read or reg[0] not in names])
