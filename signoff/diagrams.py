"""Boolean functions of many variables, each known by one number."""

from signoff.errors import BadArgument

FALSE = 0
TRUE = 1


class Diagrams:
    """Holds boolean functions as decision diagrams.

    A reference is the index of a node. A node (k, low, high) is the function `low`
    where variable k is False and `high` where it is True. Both are earlier nodes, and
    their variables are greater than k. There are no two equal nodes, and none whose
    `low` is its `high`, so each function has one reference only.
    """

    def __init__(self):
        # The two constants have no variable; what stands in their places is not read.
        self._nodes = [(0, FALSE, FALSE), (0, TRUE, TRUE)]
        self._places = {}
        self._chosen = {}

    def variable(self, k):
        """The function whose value is that of variable k."""
        if k < 0:
            raise BadArgument("variables are numbered from 0")
        return self._node(k, FALSE, TRUE)

    def negate(self, a):
        """The negation of a function."""
        return self.choose(a, FALSE, TRUE)

    def both(self, a, b):
        """The conjunction of two functions."""
        return self.choose(min(a, b), max(a, b), FALSE)

    def either(self, a, b):
        """The disjunction of two functions."""
        return self.choose(min(a, b), TRUE, max(a, b))

    def choose(self, c, a, b):
        """The function that is a where c is True, and b elsewhere."""
        goal = (c, a, b)
        waiting = [goal]
        # The stack takes the place of nested calls, whose depth would be the number of variables.
        while waiting:
            task = waiting[-1]
            if self._known_choice(task) is not None:
                waiting.pop()
                continue
            top = min([self._nodes[part][0] for part in task if part > TRUE])
            halves = [tuple([self._half(part, top, side) for part in task]) for side in (False, True)]
            open_halves = [half for half in halves if self._known_choice(half) is None]
            if open_halves:
                waiting.extend(open_halves)
            else:
                low, high = [self._known_choice(half) for half in halves]
                self._chosen[task] = self._node(top, low, high)
        return self._known_choice(goal)

    def all_of(self, references):
        """The conjunction of a list of functions."""
        rows = list(references)
        # Joining neighbours keeps most of the functions small, unlike adding one after the other.
        while len(rows) > 1:
            pairs = [self.both(rows[k], rows[k + 1]) for k in range(0, len(rows) - 1, 2)]
            rows = pairs + rows[2 * len(pairs):]
        return rows[0] if rows else TRUE

    def any_of(self, references):
        """The disjunction of a list of functions."""
        rows = list(references)
        while len(rows) > 1:
            pairs = [self.either(rows[k], rows[k + 1]) for k in range(0, len(rows) - 1, 2)]
            rows = pairs + rows[2 * len(pairs):]
        return rows[0] if rows else FALSE

    def applied(self, table, references):
        """The function that a table gives for the values of some functions."""
        rows = [TRUE if value else FALSE for value in table]
        for part in references:
            # Rows that differ in the first input only stand side by side.
            rows = [self.choose(part, rows[k + 1], rows[k]) for k in range(0, len(rows), 2)]
        return rows[0]

    def fix(self, a, k, value):
        """The function that a becomes if variable k has the value."""
        fixed = {FALSE: FALSE, TRUE: TRUE}
        for node in self._below(a):
            top, low, high = self._nodes[node]
            if top > k:
                fixed[node] = node
            elif top == k:
                fixed[node] = high if value else low
            else:
                fixed[node] = self._node(top, fixed[low], fixed[high])
        return fixed[a]

    def value(self, a, bits):
        """The value of a function for an assignment."""
        node = a
        while node > TRUE:
            node = self._half(node, self._nodes[node][0], bits[self._nodes[node][0]])
        return node == TRUE

    def support(self, a):
        """The ascending list of the variables on which a function depends."""
        return sorted({self._nodes[node][0] for node in self._below(a)})

    def count(self, a, many):
        """The number of assignments of so many variables for which a function is True."""
        numbers = {FALSE: 0, TRUE: 1}
        for node in self._below(a):
            k, low, high = self._nodes[node]
            # The variables between k and that of the half may have any values.
            numbers[node] = sum([numbers[half] << (self._level(half, many) - k - 1) for half in (low, high)])
        return numbers[a] << self._level(a, many)

    def least(self, a, many):
        """The least assignment of so many variables for which a function is True, or None."""
        if a == FALSE:
            return None
        bits = [False] * many
        node = a
        while node != TRUE:
            k, low, high = self._nodes[node]
            bits[k] = low == FALSE
            node = high if low == FALSE else low
        return tuple(bits)

    def _node(self, k, low, high):
        if low == high:
            return low
        key = (k, low, high)
        if key not in self._places:
            self._places[key] = len(self._nodes)
            self._nodes.append(key)
        return self._places[key]

    def _half(self, a, k, value):
        """What a becomes if variable k has the value, where a depends on no lesser variable."""
        top, low, high = self._nodes[a]
        if a <= TRUE or top != k:
            return a
        return high if value else low

    def _known_choice(self, task):
        """The function that `choose` returns, if that is plain or was found before, else None."""
        c, a, b = task
        if c == TRUE or a == b:
            return a
        if c == FALSE:
            return b
        if (a == TRUE or a == c) and (b == FALSE or b == c):
            return c
        return self._chosen.get(task)

    def _level(self, a, many):
        """The variable of a node, or the number of all variables for a constant."""
        return many if a <= TRUE else self._nodes[a][0]

    def _below(self, a):
        """The ascending list of the nodes of a function, so that the halves of a node come first."""
        found = set()
        waiting = [a]
        while waiting:
            node = waiting.pop()
            if node > TRUE and node not in found:
                found.add(node)
                waiting.extend(self._nodes[node][1:])
        return sorted(found)
