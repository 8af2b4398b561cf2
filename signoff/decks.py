"""Decks: whether they are sound, how large their modules are, and the circuits of modules."""

from signoff.circuits import MOST_PINS, check_circuit, check_pin_range, check_reg, least_order
from signoff.errors import BadNet, NameClash, Recursive, TooLarge, UnknownName, WrongCount
from signoff.tables import table_of
from signoff.trees import names_in

MOST_SIZE = 500
MOST_DEPTH = 30


class Flattener:
    """Collects the gates and registers of a module and of the parts inside it."""

    def __init__(self, deck):
        cells, modules = deck
        self.cells = {cell[0]: _table_and_ranges(cell) for cell in cells}
        self.modules = {module[0]: module for module in modules}
        self.drivers = {module[0]: _part_outputs(module) for module in modules}
        self.gates = []
        self.regs = []

    def add_items(self, module, prefix, outside):
        """Adds the items of a module, with a prefix, where `outside` are the nets at its inputs."""
        _, inputs, _, items = self.modules[module]
        known = {net: other for net, other in zip(inputs, outside)}
        for item in items:
            name = prefix + item[1]
            nets = tuple([known[net] if net in known else prefix + self.inside(module, net)
                          for net in _nets_at(item)])
            if item[0] == "gate":
                table, ranges = self.cells[item[2]]
                self.gates.append((name, table, nets, ranges))
            elif item[0] == "reg":
                self.regs.append((name, nets[0]) + item[3:])
            else:
                self.add_items(item[3], name + "/", nets)

    def inside(self, module, net):
        """The name that the driver of a net of a module has, as seen from this module."""
        way = ""
        while net in self.drivers[module]:
            part, module, place = self.drivers[module][net]
            way = way + part + "/"
            net = self.modules[module][2][place]
        return way + net


def check_deck(deck):
    """Returns None if a deck is sound, and raises the error of the first broken rule otherwise."""
    cells, modules = deck
    _check_names(cells, modules)
    _check_known(cells, modules)
    _check_counts(cells, modules)
    _check_ranges(cells, modules)
    for _, inputs, outputs, _ in modules:
        for net in outputs:
            if net in inputs:
                raise BadNet(f"output {net} is an input")
    if len(_module_order(modules)) < len(modules):
        raise Recursive("a module contains a part of itself")


def module_size(deck, name):
    """The number of items in a module and, again and again, in the modules of its parts."""
    sizes = _sizes(deck[1])
    if name not in sizes:
        raise UnknownName(f"{name} is not a module")
    return sizes[name][0]


def flatten(deck, name):
    """The circuit of a module."""
    check_deck(deck)
    sizes = _sizes(deck[1])
    if name not in sizes:
        raise UnknownName(f"{name} is not a module")
    size, depth = sizes[name]
    if size > MOST_SIZE or depth > MOST_DEPTH:
        raise TooLarge(f"module {name} is too large")
    flattener = Flattener(deck)
    _, inputs, outputs, _ = flattener.modules[name]
    flattener.add_items(name, "", inputs)
    ports = tuple([(port, flattener.inside(name, port)) for port in outputs])
    circuit = (inputs, tuple(flattener.gates), tuple(flattener.regs), ports)
    check_circuit(circuit)
    return circuit


def _nets_at(item):
    """The nets that a gate, a part or a register reads."""
    if item[0] == "gate":
        return item[3]
    return item[4] if item[0] == "part" else (item[2],)


def _nets_of(module):
    """The inputs of a module, the names of its gates and registers, and the outputs of its parts."""
    nets = list(module[1])
    for item in module[3]:
        nets.extend(item[2] if item[0] == "part" else [item[1]])
    return nets


def _parts(module):
    return [item for item in module[3] if item[0] == "part"]


def _part_outputs(module):
    """For each output of a part: the part, its module, and the place among the outputs."""
    return {net: (part[1], part[3], place) for part in _parts(module) for place, net in enumerate(part[2])}


def _table_and_ranges(cell):
    _, pins, tree, ranges = cell
    pairs = {pin: (low, high) for pin, low, high in ranges}
    return table_of(tree, pins), tuple([pairs[pin] for pin in pins])


def _check_names(cells, modules):
    groups = [[one[0] for one in cells + modules]]
    groups.extend([cell[1] for cell in cells])
    for module in modules:
        groups.append(_nets_of(module))
        groups.append([part[1] for part in _parts(module)])
        groups.append(module[2])
    for names in groups:
        if len(set(names)) < len(names):
            raise NameClash("a name of a deck stands for two things")


def _check_known(cells, modules):
    kinds = {"gate": {cell[0]: True for cell in cells}, "part": {module[0]: True for module in modules}}
    for _, pins, tree, ranges in cells:
        _check_all_in(names_in(tree) + [pin for pin, _, _ in ranges], pins)
    for module in modules:
        nets = {net: True for net in _nets_of(module)}
        _check_all_in(module[2], nets)
        for item in module[3]:
            _check_all_in(_nets_at(item), nets)
            if item[0] != "reg":
                _check_all_in([_kind_of(item)], kinds[item[0]])


def _check_all_in(names, known):
    for name in names:
        if name not in known:
            raise UnknownName(f"{name} is not known at its place")


def _kind_of(item):
    """The cell of a gate, or the module of a part."""
    return item[2] if item[0] == "gate" else item[3]


def _check_counts(cells, modules):
    pins = {cell[0]: len(cell[1]) for cell in cells}
    ends = {module[0]: (len(module[1]), len(module[2])) for module in modules}
    for name, names, _, ranges in cells:
        if len(names) > MOST_PINS or sorted(names) != sorted([pin for pin, _, _ in ranges]):
            raise WrongCount(f"cell {name} has too many pins, or not one range for each")
    for module in modules:
        for item in module[3]:
            if item[0] == "gate" and len(item[3]) != pins[item[2]]:
                raise WrongCount(f"gate {item[1]} has not one net for each pin")
            if item[0] == "part" and (len(item[4]), len(item[2])) != ends[item[3]]:
                raise WrongCount(f"the nets or outputs of part {item[1]} do not fit its module")


def _check_ranges(cells, modules):
    for cell in cells:
        for _, low, high in cell[3]:
            check_pin_range((low, high))
    for module in modules:
        for item in module[3]:
            if item[0] == "reg":
                check_reg(item[1:])


def _module_order(modules):
    """The indexes of the modules, each behind the modules of its parts; recursive ones are left out."""
    places = {module[0]: k for k, module in enumerate(modules)}
    return least_order([[places[part[3]] for part in _parts(module)] for module in modules])


def _sizes(modules):
    """For the name of each module its size and its depth."""
    found = {}
    for k in _module_order(modules):
        inner = [found[part[3]] for part in _parts(modules[k])]
        size = len(modules[k][3]) + sum([size for size, _ in inner])
        found[modules[k][0]] = (size, 1 + max([depth for _, depth in inner], default=0))
    return found
