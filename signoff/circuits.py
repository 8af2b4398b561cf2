"""Circuits: whether they are sound, and how their gates hang together."""

from heapq import heappop, heappush

from signoff.errors import BadRange, Looped, NameClash, TooDeep, UnknownName, WrongCount

MOST_PINS = 6
LONGEST_PATH = 100
LEAST_SPREAD = 2


def check_circuit(circuit):
    """Returns None if a circuit is sound, and raises the error of the first broken rule otherwise."""
    _, gates, regs, outputs = circuit
    _check_names(circuit)
    for gate in gates:
        _check_counts(gate)
    read = [net for gate in gates for net in gate[2]]
    stored = [reg[1] for reg in regs]
    check_nets(circuit, read + stored + [net for _, net in outputs])
    for gate in gates:
        for pair in gate[3]:
            check_pin_range(pair)
    for reg in regs:
        check_reg(reg)
    _check_paths(gates)


def sources(circuit):
    """The list of the names of the sources: the inputs and then the registers."""
    return list(circuit[0]) + [reg[0] for reg in circuit[2]]


def readers(circuit, net):
    """The ascending list of the pairs (gate, pin) of the pins that are connected to a net."""
    check_nets(circuit, [net])
    return [(g, pin) for g, gate in enumerate(circuit[1]) for pin, name in enumerate(gate[2]) if name == net]


def cone(circuit, names):
    """The ascending list of the gates whose nets can depend on one of these nets."""
    check_nets(circuit, names)
    gates = circuit[1]
    found = set()
    waiting = list(names)
    followers = _gates_by_net(gates)
    while waiting:
        net = waiting.pop()
        for g in followers.get(net, ()):
            if g not in found:
                found.add(g)
                waiting.append(gates[g][0])
    return sorted(found)


def gate_order(circuit):
    """The least list of all gates in which each one stands behind those whose nets it reads."""
    return least_order(_gates_read(circuit[1]))


def check_nets(circuit, names):
    """Raises UnknownName if a name is not a net of the circuit."""
    nets = {name: True for name in _all_names(circuit)}
    for name in names:
        if name not in nets:
            raise UnknownName(f"{name} is not a net")


def check_pin_range(pair):
    """Raises BadRange if a pair cannot be the range of a pin's delay."""
    low, high = pair
    if low < 0 or low + LEAST_SPREAD > high:
        raise BadRange("a pin has a range that is not allowed")


def check_reg(reg):
    """Raises BadRange if a number of a register is not allowed."""
    name, _, edge, out, setup, hold, _ = reg
    for low, high in (edge, out):
        if low < 0 or low > high:
            raise BadRange(f"a range of reg {name} is not allowed")
    # Else what is stored could depend on itself.
    if setup < 0 or hold < 0 or hold >= out[1]:
        raise BadRange(f"setup or hold of reg {name} is not allowed")


def with_ranges(circuit, rows):
    """The circuit with other ranges: a list or tuple of pairs for each gate."""
    inputs, gates, regs, outputs = circuit
    changed = [(name, table, nets, tuple(row)) for (name, table, nets, _), row in zip(gates, rows)]
    return inputs, tuple(changed), regs, outputs


def least_order(needed):
    """The least list of indexes in which each one stands behind those that it needs.

    `needed` has a list of such indexes for each index. Those that depend on a cycle are left out.
    """
    followers = [[] for _ in needed]
    for k, others in enumerate(needed):
        for other in others:
            followers[other].append(k)
    missing = [len(others) for others in needed]
    # An ascending list is a heap.
    ready = [k for k, many in enumerate(missing) if many == 0]
    order = []
    while ready:
        k = heappop(ready)
        order.append(k)
        for follower in followers[k]:
            missing[follower] -= 1
            if missing[follower] == 0:
                heappush(ready, follower)
    return order


def _all_names(circuit):
    """The names of inputs, gates and registers, as often as they occur."""
    inputs, gates, regs, _ = circuit
    return list(inputs) + [gate[0] for gate in gates] + [reg[0] for reg in regs]


def _check_names(circuit):
    ports = [port for port, _ in circuit[3]]
    for names in (_all_names(circuit), ports):
        if len(set(names)) < len(names):
            raise NameClash("a name stands for two nets or two outputs")


def _check_counts(gate):
    name, table, nets, ranges = gate
    if len(nets) > MOST_PINS or len(ranges) != len(nets) or len(table) != 1 << len(nets):
        raise WrongCount(f"the pins, the ranges and the table of gate {name} do not fit")


def _check_paths(gates):
    """Raises Looped if there is a cycle of gates, and TooDeep if a path is too long."""
    read = _gates_read(gates)
    order = least_order(read)
    if len(order) < len(gates):
        raise Looped(tuple([gates[g][0] for g in _cycle(read, order)]))
    lengths = [0] * len(gates)
    for g in order:
        lengths[g] = 1 + max([lengths[other] for other in read[g]], default=0)
        if lengths[g] > LONGEST_PATH:
            raise TooDeep(f"a path to gate {gates[g][0]} has more than {LONGEST_PATH} gates")


def _gates_by_net(gates):
    """For each net that is read, the list of the gates that read it, once for each pin."""
    found = {}
    for g, gate in enumerate(gates):
        for net in gate[2]:
            found.setdefault(net, []).append(g)
    return found


def _gates_read(gates):
    """For each gate, the list of the gates whose nets it reads, once for each pin."""
    places = {gate[0]: g for g, gate in enumerate(gates)}
    return [[places[net] for net in gate[2] if net in places] for gate in gates]


def _cycle(read, order):
    """The gates of some cycle, each of which reads the next one, where the order misses some gates."""
    left = [True] * len(read)
    for g in order:
        left[g] = False
    # A gate that is left reads one that is left, so the way along them comes back to itself.
    g = left.index(True)
    way = []
    places = {}
    while g not in places:
        places[g] = len(way)
        way.append(g)
        g = [other for other in read[g] if left[other]][0]
    return way[places[g]:]
