"""What the nets of a circuit settle to, and the plain step-by-step meaning of its registers."""

from signoff.circuits import gate_order, sources
from signoff.tables import look_up


def settle(circuit, vector):
    """The dictionary from the names of all nets to their settled values for a vector."""
    return _settled(circuit, gate_order(circuit), vector)


def functions(circuit, diagrams):
    """The dictionary from the names of all nets to their functions, where variable k is source k."""
    found = {net: diagrams.variable(k) for k, net in enumerate(sources(circuit))}
    for g in gate_order(circuit):
        name, table, nets, _ = circuit[1][g]
        found[name] = diagrams.applied(table, [found[net] for net in nets])
    return found


def start_state(circuit):
    """The tuple of the start values of the registers."""
    return tuple([reg[6] for reg in circuit[2]])


def step(circuit, state, bits):
    """The state that follows a state, for the values of the inputs."""
    return _next_state(circuit, gate_order(circuit), state, bits)


def trace(circuit, rows):
    """The list of the states from the start state on, one more for the input values of each row."""
    order = gate_order(circuit)
    states = [start_state(circuit)]
    for bits in rows:
        states.append(_next_state(circuit, order, states[-1], bits))
    return states


def _settled(circuit, order, vector):
    found = {net: bit for net, bit in zip(sources(circuit), vector)}
    for g in order:
        name, table, nets, _ = circuit[1][g]
        found[name] = look_up(table, [found[net] for net in nets])
    return found


def _next_state(circuit, order, state, bits):
    values = _settled(circuit, order, (*bits, *state))
    return tuple([values[reg[1]] for reg in circuit[2]])
