"""Sizes of gates, and the cheapest ones that meet limits."""

from signoff.arrivals import Arrivals
from signoff.circuits import check_nets, check_pin_range, with_ranges
from signoff.errors import BadArgument, WrongCount


class Search:
    """Looks for the cheapest choice of sizes that meets limits.

    Only the highs of those pins matter on whose nets a late arrival with a limit can depend. An
    open gate is one with several candidates; until one is chosen, it is as fast as any of them.
    """

    def __init__(self, circuit, starts, limits, sizes):
        self._arrivals = Arrivals(circuit, starts)
        self._limits = limits
        self._costs = [[cost for cost, _ in rows] for rows in sizes]
        times = self._arrivals.required(limits)
        self._pins = [self._varying_pins(gate) if times[gate[0]] is not None else [] for gate in circuit[1]]
        self._highs = [[[ranges[pin][1] for pin in pins] for _, ranges in rows]
                       for rows, pins in zip(sizes, self._pins)]
        self._candidates = [_worth_trying(costs, highs) for costs, highs in zip(self._costs, self._highs)]
        for g in range(len(sizes)):
            self._set_fastest(g)

    def best(self):
        """The least cost with the least choice that has it, None if no choice meets the limits."""
        if not self._meets() or not self._drop_hopeless():
            return None
        gates = [g for g, candidates in enumerate(self._candidates) if len(candidates) > 1]
        # For each gate the place of its chosen candidate, -1 while none is chosen.
        picks = [0 if len(candidates) == 1 else -1 for candidates in self._candidates]
        found = None
        at = 0
        # Choices come in ascending order, so of several ones with the same cost the least comes first.
        while at >= 0:
            if at == len(gates):
                choice = [candidates[pick] for candidates, pick in zip(self._candidates, picks)]
                found = (self._least_cost(picks), choice)
                at -= 1
            elif self._take_next(gates[at], picks, found):
                at += 1
            else:
                at -= 1
        return found

    def _varying_pins(self, gate):
        """The pins of a gate whose nets have arrivals."""
        return [pin for pin, net in enumerate(gate[2]) if self._arrivals.late(net) is not None]

    def _set(self, g, highs):
        for pin, high in zip(self._pins[g], highs):
            self._arrivals.set_range(g, pin, 0, high)

    def _set_fastest(self, g):
        rows = [self._highs[g][k] for k in self._candidates[g]]
        self._set(g, [min(column) for column in zip(*rows)])

    def _meets(self):
        """Whether no late arrival is greater than its limit."""
        lates = [(self._arrivals.late(net), limit) for net, limit in self._limits.items()]
        return all([late is None or late <= limit for late, limit in lates])

    def _drop_hopeless(self):
        """Drops the candidates that break a limit however fast all others are; False if a gate loses all."""
        has_changed = True
        while has_changed:
            has_changed = False
            for g, candidates in enumerate(list(self._candidates)):
                if len(candidates) > 1:
                    kept = [k for k in candidates if self._meets_with(g, k)]
                    if len(kept) == 0:
                        return False
                    has_changed = has_changed or len(kept) < len(candidates)
                    self._candidates[g] = kept
                    self._set_fastest(g)
        return True

    def _meets_with(self, g, k):
        """Gives a gate one of its sizes, and tells whether the limits are met now."""
        self._set(g, self._highs[g][k])
        return self._meets()

    def _take_next(self, g, picks, found):
        """Takes the next candidate of an open gate that can lead to a lower cost; False if there is none."""
        candidates = self._candidates[g]
        while picks[g] + 1 < len(candidates):
            picks[g] += 1
            is_cheaper = found is None or self._least_cost(picks) < found[0]
            if is_cheaper and self._meets_with(g, candidates[picks[g]]):
                return True
        picks[g] = -1
        self._set_fastest(g)
        return False

    def _least_cost(self, picks):
        """The least cost of all choices with some picks."""
        total = 0
        for costs, candidates, pick in zip(self._costs, self._candidates, picks):
            total += costs[candidates[pick]] if pick >= 0 else min([costs[k] for k in candidates])
        return total


def sized(circuit, sizes, choice):
    """The circuit in which each gate has the ranges of the size that was chosen for it."""
    _check_counts(circuit, sizes)
    if len(choice) != len(sizes):
        raise WrongCount("there is not one index for each gate")
    _check_costs(sizes)
    for rows, k in zip(sizes, choice):
        if k < 0 or k >= len(rows):
            raise BadArgument("there is no such size")
    _check_ranges(sizes)
    return with_ranges(circuit, [rows[k][1] for rows, k in zip(sizes, choice)])


def total_cost(sizes, choice):
    """The sum of the costs of the chosen sizes."""
    _check_costs(sizes)
    return sum([rows[k][0] for rows, k in zip(sizes, choice)])


def cheapest(circuit, starts, limits, sizes):
    """The least cost of all choices that meet the limits, with the least choice that has it, or None."""
    _check_counts(circuit, sizes)
    _check_costs(sizes)
    _check_ranges(sizes)
    check_nets(circuit, list(limits))
    return Search(circuit, starts, limits, sizes).best()


def _check_counts(circuit, sizes):
    gates = circuit[1]
    if len(sizes) != len(gates):
        raise WrongCount("there is not one list of sizes for each gate")
    for gate, rows in zip(gates, sizes):
        if len(rows) == 0 or any([len(ranges) != len(gate[2]) for _, ranges in rows]):
            raise WrongCount(f"gate {gate[0]} has no size, or a size has not one range for each pin")


def _check_costs(sizes):
    if any([cost < 0 for rows in sizes for cost, _ in rows]):
        raise BadArgument("a cost is negative")


def _check_ranges(sizes):
    for rows in sizes:
        for _, ranges in rows:
            for pair in ranges:
                check_pin_range(pair)


def _worth_trying(costs, highs):
    """The sizes of a gate but for those for which another one is as fast, and cheaper or as cheap and before."""
    return [k for k in range(len(costs))
            if not any([_is_as_fast(highs[other], highs[k]) and (costs[other], other) < (costs[k], k)
                        for other in range(len(costs))])]


def _is_as_fast(highs, others):
    return all([high <= other for high, other in zip(highs, others)])
