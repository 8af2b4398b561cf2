"""Tables of boolean functions of few inputs."""

from signoff.errors import BadArgument, UnknownName
from signoff.trees import names_in, postorder

MOST_INPUTS = 6


def table_of(tree, names):
    """The table of an expression whose inputs are these names, in order."""
    if len(names) > MOST_INPUTS:
        raise BadArgument(f"a table has at most {MOST_INPUTS} inputs")
    if len(set(names)) < len(names):
        raise BadArgument("two inputs have the same name")
    for name in names_in(tree):
        if name not in names:
            raise UnknownName(f"{name} is not an input")
    rows = 1 << len(names)
    mask = _mask(tree, names, rows)
    return tuple([(mask >> row) & 1 == 1 for row in range(rows)])


def inputs_of(table):
    """The number of inputs of a table."""
    return len(table).bit_length() - 1


def look_up(table, bits):
    """The value of a table for an assignment."""
    return table[sum([1 << k for k, bit in enumerate(bits) if bit])]


def depends_on(table):
    """The ascending list of the inputs that can change the value of a table."""
    return [k for k in range(inputs_of(table)) if _changes_with(table, k)]


def forced(table, partial):
    """The value that a partial assignment forces, None if it forces none."""
    rows = table
    for known in partial:
        rows = _without_input(rows, known)
    return rows[0]


def cubes(table, value):
    """The ascending list of the cubes of a value."""
    forcing = [partial for partial, found in _all_forced(table) if found == value]
    known = {partial: True for partial in forcing}
    return [partial for partial in forcing if not any([wider in known for wider in _wider(partial)])]


def _mask(tree, names, rows):
    """The values of an expression in all rows of its table: the bit r is that of the row r."""
    columns = {name: _column(k, rows) for k, name in enumerate(names)}
    whole = (1 << rows) - 1
    masks = []
    for part in postorder(tree):
        kind = part[0]
        if kind == "name":
            masks.append(columns[part[1]])
        elif kind == "const":
            masks.append(whole if part[1] else 0)
        elif kind == "not":
            masks.append(whole ^ masks.pop())
        else:
            right = masks.pop()
            masks.append(_combined(kind, masks.pop(), right))
    return masks[0]


def _column(k, rows):
    """The mask of the rows in which input k is True."""
    return sum([1 << row for row in range(rows) if (row >> k) & 1])


def _combined(kind, left, right):
    if kind == "and":
        return left & right
    if kind == "xor":
        return left ^ right
    return left | right


def _changes_with(table, k):
    return any([value != table[row ^ (1 << k)] for row, value in enumerate(table)])


def _without_input(rows, known):
    """The rows for the other inputs, where the first input is False, True or not known.

    The first input is True in every second row. A row is None if its value is not forced.
    """
    if known == 0:
        return rows[0::2]
    if known == 1:
        return rows[1::2]
    return tuple([low if low == high else None for low, high in zip(rows[0::2], rows[1::2])])


def _all_forced(table):
    """The ascending list of all partial assignments, each with the value that it forces."""
    found = [((), table)]
    for _ in range(inputs_of(table)):
        found = [(partial + (known,), _without_input(rows, known))
                 for partial, rows in found for known in (-1, 0, 1)]
    return [(partial, rows[0]) for partial, rows in found]


def _wider(partial):
    """The partial assignments in which one known input was made unknown."""
    return [partial[:k] + (-1,) + partial[k + 1:] for k, known in enumerate(partial) if known != -1]
