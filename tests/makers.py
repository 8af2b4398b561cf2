"""Circuits for the tests, made by hand or at random, and what they mean by the plainest words."""

import itertools

from signoff.clocked import Clocked

BUFFER = (False, True)
INVERTER = (True, False)
BOTH = (False, False, False, True)
EITHER = (False, True, True, True)
EXOR = (False, True, True, False)


def reg(name, net, edge=(0, 1), out=(1, 2), setup=0, hold=0, start=False):
    return (name, net, edge, out, setup, hold, start)


def random_range(source, most_low=4, most_spread=5):
    low = source.randrange(most_low + 1)
    return (low, low + source.randrange(2, max(3, most_spread + 1)))


def random_table(source, many):
    """A table of so many inputs; many of them are those of common gates."""
    kind = source.randrange(4)
    if kind == 0:
        return tuple(source.random() < 0.5 for _ in range(2 ** many))
    if kind == 1:
        return tuple((bin(row).count("1") % 2 == 1) for row in range(2 ** many))
    odd = source.randrange(2 ** many)
    worth = source.random() < 0.5
    return tuple((row == odd) == worth for row in range(2 ** many))


def random_circuit(source, *, inputs=2, regs=1, gates=5, pins=3, low=4, spread=5):
    """A sound circuit whose gates stand in any order and read any nets before them."""
    names = [f"g{k}" for k in range(gates)]
    roots = [f"i{k}" for k in range(inputs)] + [f"r{k}" for k in range(regs)]
    made = []
    for k, name in enumerate(names):
        # The nets that were made last are read more often, which gives longer paths.
        nets = roots + names[:k] + names[max(0, k - 2):k] * 2
        many = source.randrange(0 if source.random() < 0.2 else 1, pins + 1) if nets else 0
        made.append((name, random_table(source, many), tuple(source.choice(nets) for _ in range(many)),
                     tuple(random_range(source, low, spread) for _ in range(many))))
    source.shuffle(made)
    nets = roots + names
    kept = tuple(random_reg(source, f"r{k}", source.choice(nets)) for k in range(regs))
    ports = tuple((f"o{k}", source.choice(nets)) for k in range(source.randrange(3))) if nets else ()
    return (tuple(roots[:inputs]), tuple(made), kept, ports)


def random_reg(source, name, net):
    edge = source.randrange(3)
    out = source.randrange(3)
    late = out + source.randrange(1, 4)
    return reg(name, net, (edge, edge + source.randrange(3)), (out, late), source.randrange(3),
               source.randrange(late), source.random() < 0.5)


def nets_of(circuit):
    """The names of all nets, the sources first."""
    return list(circuit[0]) + [one[0] for one in circuit[2]] + [gate[0] for gate in circuit[1]]


def source_names(circuit):
    return list(circuit[0]) + [one[0] for one in circuit[2]]


def vectors(circuit):
    """The list of all vectors, in order."""
    return list(itertools.product((False, True), repeat=len(source_names(circuit))))


def plain_settle(circuit, vector):
    """The settled values by the words of point 3.4."""
    gates = {gate[0]: gate for gate in circuit[1]}
    found = dict(zip(source_names(circuit), vector))

    def settled(net):
        if net not in found:
            _, table, nets, _ = gates[net]
            found[net] = table[sum(2 ** j for j, other in enumerate(nets) if settled(other))]
        return found[net]

    for name in gates:
        settled(name)
    return found


def all_paths(circuit, net):
    """The list of all paths to a net (point 6.3), in any order."""
    gates = {gate[0]: g for g, gate in enumerate(circuit[1])}
    if net not in gates:
        return [(source_names(circuit).index(net), ())]
    g = gates[net]
    return [(k, (*pins, (g, pin))) for pin, other in enumerate(circuit[1][g][2])
            for k, pins in all_paths(circuit, other)]


def random_holds(source, circuit, most=6):
    """A pair (since, until) for each input."""
    found = []
    for _ in circuit[0]:
        since = source.randrange(-2, most)
        found.append((since, since - source.randrange(4)))
    return found


def random_clocked(source, *, period=None, **sizes):
    """A clocked circuit with any margins."""
    circuit = random_circuit(source, **{"inputs": 1, "regs": 2, "gates": 4, "low": 3, "spread": 3, **sizes})
    return Clocked(circuit, source.randrange(3, 26) if period is None else period, random_holds(source, circuit))


def calm_reg(source, name, net):
    """A register that changes so late after an edge that it disturbs no other one."""
    edge = source.randrange(3)
    out = source.randrange(6, 9)
    return reg(name, net, (edge, edge + source.randrange(2)), (out, out + source.randrange(3)),
               source.randrange(3), source.randrange(3), source.random() < 0.5)


def clean_clocked(source, **sizes):
    """A clean clocked circuit, most often of the least period for which it is clean."""
    inputs, gates, regs, outputs = random_circuit(
        source, **{"inputs": 2, "regs": 3, "gates": 6, "low": 3, "spread": 4, **sizes})
    circuit = (inputs, gates, tuple(calm_reg(source, one[0], one[1]) for one in regs), outputs)
    holds = [(since, since - source.randrange(2)) for since in (source.randrange(6, 9) for _ in inputs)]
    period = 4
    while not Clocked(circuit, period, holds).is_clean():
        period += 1
    return Clocked(circuit, period + source.choice((0, 0, 0, 1, 9)), holds)


def random_play(source, clocked, cycles):
    """The arguments of a clocked run but for the clocked circuit."""
    circuit = clocked.circuit()
    rows = [tuple(source.random() < 0.5 for _ in circuit[0]) for _ in range(cycles)]
    edges = [[source.randint(*one[2]) for _ in range(source.randrange(1, 4))] for one in circuit[2]]
    shakes = [[source.random() < 0.5 for _ in range(source.randrange(1, 6))] for _ in source_names(circuit)]
    guesses = [[source.random() < 0.5 for _ in range(source.randrange(1, 4))] for _ in circuit[2]]
    delays = [[[source.randint(*pair) for _ in range(source.randrange(1, 5))] for pair in gate[3]]
              for gate in circuit[1]]
    return rows, {"edges": edges, "shakes": shakes, "guesses": guesses, "delays": delays}
