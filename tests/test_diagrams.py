"""Point 2.4."""

import itertools
import random
import unittest

from signoff.diagrams import FALSE, TRUE, Diagrams
from signoff.errors import BadArgument
from tests.helpers import few_calls

# Variables with gaps; the functions of the tests depend on these only.
VARIABLES = (0, 1, 4, 9, 1000)
ROWS = list(itertools.product((False, True), repeat=len(VARIABLES)))


def long_row(row):
    """The assignment of all variables, where those between have some values."""
    bits = [k % 3 == 0 for k in range(VARIABLES[-1] + 1)]
    for k, bit in zip(VARIABLES, row):
        bits[k] = bit
    return bits


def column(j):
    return tuple(row[j] for row in ROWS)


class Pool:
    """Functions that were built in many ways: references beside their values in all rows."""

    def __init__(self, seed, steps):
        self.source = random.Random(seed)
        self.diagrams = Diagrams()
        self.pairs = [(FALSE, (False,) * len(ROWS)), (TRUE, (True,) * len(ROWS))]
        places = list(range(len(VARIABLES)))
        self.source.shuffle(places)
        for j in places:
            self.pairs.append((self.diagrams.variable(VARIABLES[j]), column(j)))
        for _ in range(steps):
            self.pairs.append(self.step())

    def some(self):
        return self.source.choice(self.pairs)

    def step(self):
        d = self.diagrams
        (a, p), (b, q), (c, r) = self.some(), self.some(), self.some()
        kind = self.source.randrange(7)
        if kind == 0:
            return d.negate(a), tuple(not x for x in p)
        if kind == 1:
            return d.both(a, b), tuple(x and y for x, y in zip(p, q))
        if kind == 2:
            return d.either(a, b), tuple(x or y for x, y in zip(p, q))
        if kind == 3:
            return d.choose(c, a, b), tuple(x if z else y for x, y, z in zip(p, q, r))
        if kind == 4:
            return d.all_of([a, b, c]), tuple(x and y and z for x, y, z in zip(p, q, r))
        if kind == 5:
            return d.any_of([c, b, a]), tuple(x or y or z for x, y, z in zip(p, q, r))
        return d.applied((False, True, True, False), [a, b]), tuple(x != y for x, y in zip(p, q))


def pools():
    return [Pool(seed, steps) for seed, steps in ((1, 5), (2, 60), (3, 150), (4, 150))]


class Building(unittest.TestCase):
    def test_constants(self):
        self.assertEqual((FALSE, TRUE), (0, 1))
        d = Diagrams()
        self.assertIs(d.value(FALSE, ()), False)
        self.assertIs(d.value(TRUE, ()), True)
        self.assertEqual(d.negate(FALSE), TRUE)
        self.assertEqual(d.negate(TRUE), FALSE)

    def test_variables(self):
        d = Diagrams()
        for k in (3, 0, 10 ** 30, 3):
            self.assertGreater(d.variable(k), 1)
            self.assertEqual(d.variable(k), d.variable(k))
            self.assertEqual(d.support(d.variable(k)), [k])
        self.assertNotEqual(d.variable(0), d.variable(3))

    def test_negative_variables(self):
        d = Diagrams()
        for k in (-1, -2, -10 ** 20):
            self.assertRaises(BadArgument, d.variable, k)
        self.assertEqual(d.value(d.variable(0), (True,)), True)

    def test_equal_exactly_if_the_functions_are_equal(self):
        for pool in pools():
            by_values = {}
            for reference, values in pool.pairs:
                self.assertIs(type(reference), int)
                self.assertEqual(by_values.setdefault(values, reference), reference)
            self.assertEqual(len(set(by_values.values())), len(by_values))

    def test_all_functions_of_three_variables_in_two_orders(self):
        rows = list(itertools.product((False, True), repeat=3))
        for order in ((0, 2, 7), (7, 0, 2)):
            d = Diagrams()
            found = {}
            for values in itertools.product((False, True), repeat=8):
                terms = []
                for row, value in zip(rows, values):
                    if value:
                        terms.append(d.all_of([d.variable(k) if bit else d.negate(d.variable(k))
                                               for k, bit in zip(order, row)]))
                one = d.any_of(terms)
                other = d.negate(d.any_of([term for term in self.minterms(d, order, rows, values)]))
                self.assertEqual(one, other)
                found[one] = values
            self.assertEqual(len(found), 256)

    def minterms(self, d, order, rows, values):
        for row, value in zip(rows, values):
            if not value:
                yield d.all_of([d.variable(k) if bit else d.negate(d.variable(k))
                                for k, bit in reversed(list(zip(order, row)))])

    def test_laws(self):
        d = Diagrams()
        a, b, c = d.variable(5), d.variable(2), d.variable(8)
        self.assertEqual(d.both(a, d.negate(a)), FALSE)
        self.assertEqual(d.either(a, d.negate(a)), TRUE)
        self.assertEqual(d.both(a, b), d.both(b, a))
        self.assertEqual(d.either(a, b), d.either(b, a))
        self.assertEqual(d.both(a, a), a)
        self.assertEqual(d.either(a, a), a)
        self.assertEqual(d.negate(d.both(a, b)), d.either(d.negate(b), d.negate(a)))
        self.assertEqual(d.choose(a, a, b), d.either(a, b))
        self.assertEqual(d.choose(a, b, a), d.both(a, b))
        self.assertEqual(d.choose(a, TRUE, FALSE), a)
        self.assertEqual(d.choose(a, FALSE, TRUE), d.negate(a))
        self.assertEqual(d.choose(a, b, b), b)
        self.assertEqual(d.choose(TRUE, b, c), b)
        self.assertEqual(d.choose(FALSE, b, c), c)
        self.assertEqual(d.choose(a, b, c), d.either(d.both(b, a), d.both(d.negate(a), c)))
        for one in (a, d.both(a, b), FALSE, TRUE):
            self.assertEqual(d.both(one, TRUE), one)
            self.assertEqual(d.both(one, FALSE), FALSE)
            self.assertEqual(d.either(one, TRUE), TRUE)
            self.assertEqual(d.either(one, FALSE), one)
            self.assertEqual(d.negate(d.negate(one)), one)

    def test_lists(self):
        d = Diagrams()
        a, b, c = d.variable(0), d.variable(1), d.variable(2)
        self.assertEqual(d.all_of([]), TRUE)
        self.assertEqual(d.any_of([]), FALSE)
        self.assertEqual(d.all_of([a]), a)
        self.assertEqual(d.any_of([a]), a)
        self.assertEqual(d.all_of([a, a, a]), a)
        self.assertEqual(d.any_of([b, b, b, b]), b)
        self.assertEqual(d.all_of([a, b, c]), d.both(a, d.both(b, c)))
        self.assertEqual(d.any_of([a, b, c]), d.either(a, d.either(b, c)))
        self.assertEqual(d.all_of([a, b, d.negate(a)]), FALSE)
        self.assertEqual(d.any_of([a, b, d.negate(a)]), TRUE)
        for many in range(1, 10):
            rows = [d.variable(k) for k in range(many)]
            self.assertEqual(d.count(d.all_of(rows), many), 1)
            self.assertEqual(d.count(d.any_of(rows), many), 2 ** many - 1)

    def test_lists_are_not_changed(self):
        d = Diagrams()
        rows = [d.variable(k) for k in (3, 1, 2, 2, 0)]
        before = list(rows)
        d.all_of(rows)
        d.any_of(rows)
        d.applied((True, False) * 16, rows)
        self.assertEqual(rows, before)

    def test_references_keep_their_meaning(self):
        pool = Pool(9, 80)
        for _ in range(100):
            pool.step()
            pool.diagrams.fix(pool.some()[0], VARIABLES[1], True)
        for reference, values in pool.pairs:
            self.assertEqual(tuple(pool.diagrams.value(reference, long_row(row)) for row in ROWS), values)

    def test_two_objects_do_not_disturb_each_other(self):
        first, second = Diagrams(), Diagrams()
        first.variable(3)
        second.variable(8)
        self.assertEqual(first.support(first.variable(3)), [3])
        self.assertEqual(second.support(second.variable(8)), [8])


class Applied(unittest.TestCase):
    def test_no_inputs(self):
        d = Diagrams()
        self.assertEqual(d.applied((True,), []), TRUE)
        self.assertEqual(d.applied((False,), []), FALSE)

    def test_the_order_of_the_inputs(self):
        d = Diagrams()
        a, b = d.variable(6), d.variable(2)
        self.assertEqual(d.applied((False, True), [a]), a)
        self.assertEqual(d.applied((True, False), [a]), d.negate(a))
        self.assertEqual(d.applied((False, True, False, False), [a, b]), d.both(a, d.negate(b)))
        self.assertEqual(d.applied((False, True, False, False), [b, a]), d.both(b, d.negate(a)))

    def test_equal_references(self):
        d = Diagrams()
        a, b = d.variable(0), d.variable(1)
        self.assertEqual(d.applied((False, True, True, False), [a, a]), FALSE)
        self.assertEqual(d.applied((True, False, False, True), [b, b]), TRUE)
        self.assertEqual(d.applied((False, False, False, True), [a, a]), a)
        self.assertEqual(d.applied((False, True, False, False), [a, d.negate(a)]), a)

    def test_against_every_assignment(self):
        pool = Pool(11, 40)
        for many in range(7):
            for _ in range(6):
                table = tuple(pool.source.random() < 0.5 for _ in range(2 ** many))
                chosen = [pool.some() for _ in range(many)]
                if many > 2:
                    chosen[1] = chosen[0]
                reference = pool.diagrams.applied(table, [one for one, _ in chosen])
                for at, row in enumerate(ROWS):
                    index = sum(2 ** j for j, (_, values) in enumerate(chosen) if values[at])
                    self.assertIs(pool.diagrams.value(reference, long_row(row)), table[index])


class Asking(unittest.TestCase):
    def test_value(self):
        for pool in pools():
            for reference, values in pool.pairs[-40:]:
                for row, value in zip(ROWS, values):
                    self.assertIs(pool.diagrams.value(reference, long_row(row)), value)
                    self.assertIs(pool.diagrams.value(reference, tuple(long_row(row))), value)

    def test_value_needs_only_the_variables_of_the_function(self):
        d = Diagrams()
        self.assertIs(d.value(d.variable(1), [False, True]), True)
        self.assertIs(d.value(d.both(d.variable(0), d.negate(d.variable(0))), []), False)

    def test_fix(self):
        for pool in pools():
            d = pool.diagrams
            for reference, values in pool.pairs[-40:]:
                for j, k in enumerate(VARIABLES):
                    for value in (False, True):
                        fixed = d.fix(reference, k, value)
                        self.assertNotIn(k, d.support(fixed))
                        for at, row in enumerate(ROWS):
                            other = ROWS.index(row[:j] + (value,) + row[j + 1:])
                            self.assertIs(d.value(fixed, long_row(row)), values[other], at)
                for k in (2, 5, 999, 1001, 10 ** 9):
                    self.assertEqual(d.fix(reference, k, True), reference)

    def test_fix_gives_the_reference_of_the_function(self):
        d = Diagrams()
        a, b, c = d.variable(1), d.variable(3), d.variable(6)
        self.assertEqual(d.fix(d.choose(a, b, c), 1, True), b)
        self.assertEqual(d.fix(d.choose(a, b, c), 1, False), c)
        self.assertEqual(d.fix(d.choose(a, b, c), 3, True), d.either(a, c))
        self.assertEqual(d.fix(d.choose(a, b, c), 6, False), d.both(a, b))
        self.assertEqual(d.fix(c, 6, True), TRUE)
        self.assertEqual(d.fix(c, 6, False), FALSE)
        self.assertEqual(d.fix(TRUE, 0, False), TRUE)

    def test_support(self):
        for pool in pools():
            for reference, values in pool.pairs:
                found = []
                for j, k in enumerate(VARIABLES):
                    if any(value != values[ROWS.index(row[:j] + (not row[j],) + row[j + 1:])]
                           for row, value in zip(ROWS, values)):
                        found.append(k)
                self.assertEqual(pool.diagrams.support(reference), found)

    def test_support_of_constants_and_a_new_list(self):
        d = Diagrams()
        self.assertEqual(d.support(FALSE), [])
        self.assertEqual(d.support(TRUE), [])
        a = d.either(d.variable(2), d.variable(10))
        d.support(a).append(3)
        self.assertEqual(d.support(a), [2, 10])

    def test_count(self):
        for pool in pools():
            for reference, values in pool.pairs:
                for more in (1, 2, 70):
                    many = VARIABLES[-1] + more
                    free = many - len(VARIABLES)
                    self.assertEqual(pool.diagrams.count(reference, many), sum(values) * 2 ** free)

    def test_count_of_few_variables(self):
        d = Diagrams()
        self.assertEqual([d.count(FALSE, many) for many in range(4)], [0, 0, 0, 0])
        self.assertEqual([d.count(TRUE, many) for many in range(4)], [1, 2, 4, 8])
        self.assertEqual([d.count(d.variable(2), many) for many in (3, 4, 5)], [4, 8, 16])
        self.assertEqual(d.count(d.negate(d.both(d.variable(0), d.variable(2))), 3), 6)

    def test_least(self):
        for pool in pools():
            for reference, values in pool.pairs:
                rows = [row for row, value in zip(ROWS, values) if value]
                for more in (1, 5):
                    many = VARIABLES[-1] + more
                    least = pool.diagrams.least(reference, many)
                    if not rows:
                        self.assertIsNone(least)
                        continue
                    wanted = [False] * many
                    for k, bit in zip(VARIABLES, rows[0]):
                        wanted[k] = bit
                    self.assertEqual(least, tuple(wanted))

    def test_least_of_few_variables(self):
        d = Diagrams()
        self.assertEqual(d.least(TRUE, 0), ())
        self.assertIsNone(d.least(FALSE, 0))
        self.assertIsNone(d.least(FALSE, 3))
        self.assertEqual(d.least(TRUE, 3), (False, False, False))
        self.assertEqual(d.least(d.variable(1), 3), (False, True, False))
        self.assertEqual(d.least(d.either(d.variable(0), d.variable(2)), 3), (False, False, True))
        self.assertEqual(d.least(d.both(d.variable(0), d.negate(d.variable(1))), 2), (True, False))


class ManyVariables(unittest.TestCase):
    def test_no_deep_calls(self):
        many = 1500
        with few_calls(100):
            d = Diagrams()
            rows = [d.variable(k) for k in range(many)]
            every, some = d.all_of(rows), d.any_of(rows[::-1])
            parity = FALSE
            for row in rows[::-1]:
                parity = d.applied((False, True, True, False), [parity, row])
            self.assertEqual(d.negate(every), d.any_of([d.negate(row) for row in rows]))
            self.assertEqual(d.both(every, some), every)
            self.assertEqual(d.count(every, many), 1)
            self.assertEqual(d.count(some, many), 2 ** many - 1)
            self.assertEqual(d.count(parity, many), 2 ** (many - 1))
            self.assertEqual(d.least(every, many), (True,) * many)
            self.assertEqual(d.least(parity, many), (False,) * (many - 1) + (True,))
            self.assertEqual(d.support(parity), list(range(many)))
            self.assertEqual(d.fix(every, 700, False), FALSE)
            self.assertEqual(d.fix(d.negate(parity), many - 1, True), d.fix(parity, many - 1, False))
            self.assertIs(d.value(every, [True] * many), True)
            self.assertIs(d.value(parity, [True] * many), False)


if __name__ == "__main__":
    unittest.main()
