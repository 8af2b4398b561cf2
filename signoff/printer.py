"""Shows expressions and decks as text."""

from signoff.trees import operands, postorder

SIGNS = {"or": " | ", "xor": " ^ ", "and": " & "}
LEVELS = {"or": 1, "xor": 2, "and": 3, "not": 4, "name": 5, "const": 5}


def show_expression(tree):
    """The text of an expression with the fewest round brackets."""
    shown = []
    for part in postorder(tree):
        first = len(shown) - len(operands(part))
        text = _with_operands(part, shown[first:])
        del shown[first:]
        shown.append(text)
    return shown[0]


def show_deck(deck):
    """The text of a deck: its cells and then its modules."""
    cells, modules = deck
    lines = []
    for cell in cells:
        lines.extend(_cell_lines(cell))
    for module in modules:
        lines.extend(_module_lines(module))
    return "".join([line + "\n" for line in lines])


def _with_operands(part, texts):
    """The text of a part of an expression whose own parts have these texts."""
    kind = part[0]
    if kind == "name":
        return part[1]
    if kind == "const":
        return "1" if part[1] else "0"
    level = LEVELS[kind]
    if kind == "not":
        return "!" + _operand(part[1], texts[0], level)
    # The operators group to the left, so only the left operand may have the same level.
    return _operand(part[1], texts[0], level) + SIGNS[kind] + _operand(part[2], texts[1], level + 1)


def _operand(tree, text, least):
    """The text of an operand, in brackets if its level is less than its place allows."""
    return "(" + text + ")" if LEVELS[tree[0]] < least else text


def _cell_lines(cell):
    name, pins, tree, ranges = cell
    lines = ["cell " + name + _names(pins) + " = " + show_expression(tree) + " {"]
    for pin, low, high in ranges:
        lines.append("  pin " + pin + " " + _range((low, high)) + ";")
    return lines + ["}"]


def _module_lines(module):
    name, inputs, outputs, items = module
    lines = ["module " + name + _names(inputs) + " -> " + _names(outputs) + " {"]
    for item in items:
        lines.append("  " + _item(item) + ";")
    return lines + ["}"]


def _item(item):
    if item[0] == "gate":
        _, name, cell, nets = item
        return "gate " + name + " = " + cell + _names(nets)
    if item[0] == "part":
        _, name, outputs, module, nets = item
        return "part " + name + ": " + _names(outputs) + " = " + module + _names(nets)
    _, name, net, edge, out, setup, hold, start = item
    first = "reg " + name + " = " + net + " edge " + _range(edge) + " out " + _range(out)
    return first + f" setup {setup} hold {hold} start " + ("1" if start else "0")


def _names(names):
    return "(" + ", ".join(names) + ")"


def _range(pair):
    low, high = pair
    return f"{low}..{high}"
