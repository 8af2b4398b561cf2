"""Wires that are trees of segments, and their delays."""

from signoff.errors import BadArgument, BadRange, WrongCount


class WireTree:
    """A tree of segments: segment k leads to node k + 1, node 0 is the root."""

    def __init__(self, segments):
        rows = list(segments)
        for k, (above, _, _) in enumerate(rows):
            if above < 0 or above > k:
                raise BadArgument(f"the parent of node {k + 1} is not an earlier node")
        for _, resistance, capacitance in rows:
            for low, high in (resistance, capacitance):
                if low < 0 or low > high:
                    raise BadRange("a resistance or a capacitance has a range that is not allowed")
        self._parents = [-1] + [above for above, _, _ in rows]
        self._resistances = [tuple(pair) for _, pair, _ in rows]
        self._capacitances = [tuple(pair) for _, _, pair in rows]

    def __len__(self):
        return len(self._parents)

    def parent(self, node):
        """The parent of a node, -1 for the root."""
        self._check_node(node)
        return self._parents[node]

    def path(self, node):
        """The list of the nodes from the root to a node."""
        self._check_node(node)
        found = []
        while node >= 0:
            found.append(node)
            node = self._parents[node]
        return found[::-1]

    def below(self, node):
        """The ascending list of the nodes whose path contains a node."""
        self._check_node(node)
        inside = [False] * len(self._parents)
        inside[node] = True
        # A parent has a smaller number, so it was looked at before.
        for k in range(node + 1, len(inside)):
            inside[k] = inside[self._parents[k]]
        return [k for k, is_inside in enumerate(inside) if is_inside]

    def delay(self, node, resistances, capacitances):
        """The delay of a node for one resistance and one capacitance of each segment."""
        self._check_node(node)
        many = len(self._parents) - 1
        if len(resistances) != many or len(capacitances) != many:
            raise WrongCount("there is not one resistance and one capacitance for each segment")
        loads = [0, *capacitances]
        for k in range(many, 0, -1):
            loads[self._parents[k]] += loads[k]
        return sum([resistances[k - 1] * loads[k] for k in self.path(node)[1:]])

    def delay_range(self, node, *, unit=1):
        """The least and the greatest delay of a node in a unit, rounded down and up."""
        self._check_node(node)
        if unit < 1:
            raise BadArgument("the unit is less than 1")
        low, high = [self.delay(node, [pair[end] for pair in self._resistances],
                                [pair[end] for pair in self._capacitances]) for end in (0, 1)]
        return low // unit, -(-high // unit)

    def _check_node(self, node):
        if node < 0 or node >= len(self._parents):
            raise BadArgument("there is no such node")
