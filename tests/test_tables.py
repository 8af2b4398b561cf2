"""Points 2.1 to 2.3."""

import itertools
import random
import unittest

from signoff.errors import BadArgument, UnknownName
from signoff.parser import parse_expression
from signoff.tables import cubes, depends_on, forced, inputs_of, look_up, table_of
from tests.helpers import CHAIN, chain, const, few_calls, name

NAMES = ("a", "b", "c", "d", "e", "f")


def meaning(tree, values):
    kind = tree[0]
    if kind == "name":
        return values[tree[1]]
    if kind == "const":
        return tree[1]
    if kind == "not":
        return not meaning(tree[1], values)
    left, right = meaning(tree[1], values), meaning(tree[2], values)
    return {"and": left and right, "xor": left != right, "or": left or right}[kind]


def index_of(bits):
    return sum(2 ** j for j, bit in enumerate(bits) if bit)


def assignments(many):
    return list(itertools.product((False, True), repeat=many))


def partials(many):
    return list(itertools.product((-1, 0, 1), repeat=many))


def agrees(bits, partial):
    return all(known == -1 or bool(known) == bit for bit, known in zip(bits, partial))


def forced_by_trying(table, partial):
    values = {table[index_of(bits)] for bits in assignments(len(partial)) if agrees(bits, partial)}
    return values.pop() if len(values) == 1 else None


def cubes_by_trying(table, value):
    many = len(table).bit_length() - 1
    force = {partial: forced_by_trying(table, partial) for partial in partials(many)}
    found = []
    for partial in sorted(force):
        wider = [tuple(-1 if j == k else known for j, known in enumerate(partial))
                 for k in range(many) if partial[k] != -1]
        if force[partial] is value and not any(force[other] is value for other in wider):
            found.append(partial)
    return found


def depends_by_trying(table):
    many = len(table).bit_length() - 1
    found = []
    for j in range(many):
        for bits in assignments(many):
            other = tuple(not bit if k == j else bit for k, bit in enumerate(bits))
            if table[index_of(bits)] != table[index_of(other)]:
                found.append(j)
                break
    return found


def all_tables(many):
    return list(itertools.product((False, True), repeat=2 ** many))


def some_tables():
    """All tables of up to three inputs, and some of more, among them such with few cubes."""
    found = [table for many in range(4) for table in all_tables(many)]
    source = random.Random(3)
    for many in (4, 4, 4, 4, 5, 5, 6):
        rows = assignments(many)
        ignored = source.randrange(many)
        found.append(tuple(source.random() < 0.5 for _ in rows))
        found.append(tuple(bits[0] or bits[-1] for bits in rows))
        found.append(tuple(sum(bits) - bits[ignored] > 1 for bits in rows))
        found.append(tuple(source.random() < 0.1 for _ in rows))
        found.append((many % 2 == 0,) * len(rows))
    return found


class TablesOf(unittest.TestCase):
    def same(self, text, names, table):
        with self.subTest(text):
            self.assertEqual(table_of(parse_expression(text), names), table)

    def test_small_ones(self):
        self.same("a & !b", ("a", "b"), (False, True, False, False))
        self.same("a & !b", ("b", "a"), (False, False, True, False))
        self.same("a", ("a",), (False, True))
        self.same("!a", ("a",), (True, False))
        self.same("0", (), (False,))
        self.same("1", (), (True,))
        self.same("0 | !0 & 1", (), (True,))
        self.same("1", ("a",), (True, True))
        self.same("b", ("a", "b"), (False, False, True, True))
        self.same("a ^ b", ("a", "b"), (False, True, True, False))
        self.same("a | b", ("a", "b"), (False, True, True, True))
        self.same("a & b & c", ("a", "b", "c"), (False,) * 7 + (True,))
        self.same("c", ("c", "a", "b"), (False, True) * 4)

    def test_it_is_a_tuple_of_booleans(self):
        table = table_of(parse_expression("a & b | !c"), ("a", "b", "c"))
        self.assertIs(type(table), tuple)
        self.assertEqual({type(value) for value in table}, {bool})

    def random_tree(self, source, names, height):
        kind = source.choice(("name", "const", "not", "and", "xor", "or", "and", "xor", "or"))
        if height == 1 or kind in ("name", "const"):
            if names and source.random() < 0.9:
                return name(source.choice(names))
            return const(source.choice([False, True]))
        if kind == "not":
            return ("not", self.random_tree(source, names, height - 1))
        return (kind, self.random_tree(source, names, height - 1), self.random_tree(source, names, height - 1))

    def test_random_trees_against_every_assignment(self):
        source = random.Random(5)
        for many in range(7):
            for _ in range(25):
                names = tuple(source.sample(NAMES, many))
                tree = self.random_tree(source, names[:source.randrange(many + 1)] or names, 6)
                table = table_of(tree, names)
                self.assertEqual(len(table), 2 ** many)
                for bits in assignments(many):
                    value = meaning(tree, dict(zip(names, bits)))
                    self.assertIs(table[index_of(bits)], value)
                    self.assertIs(look_up(table, bits), value)

    def test_errors(self):
        tree = parse_expression("a & b")
        seven = NAMES + ("g",)
        self.assertRaises(BadArgument, table_of, tree, seven)
        self.assertRaises(BadArgument, table_of, tree, seven + ("h", "i"))
        self.assertRaises(BadArgument, table_of, tree, ("a", "b", "a"))
        self.assertRaises(BadArgument, table_of, tree, ("a", "b", "c", "c"))
        self.assertRaises(BadArgument, table_of, const(True), ("a", "a"))
        self.assertRaises(UnknownName, table_of, tree, ())
        self.assertRaises(UnknownName, table_of, tree, ("a",))
        self.assertRaises(UnknownName, table_of, tree, ("b", "c"))
        self.assertRaises(UnknownName, table_of, parse_expression("a & 0 & g"), NAMES)
        self.assertEqual(len(table_of(tree, NAMES)), 64)

    def test_the_first_error_is_raised(self):
        tree = parse_expression("a & z")
        self.assertRaises(BadArgument, table_of, tree, NAMES + ("g",))
        self.assertRaises(BadArgument, table_of, tree, ("a", "a"))
        self.assertRaises(BadArgument, table_of, tree, ("b", "b"))

    def test_long_chains(self):
        with few_calls():
            self.assertEqual(table_of(chain("and", CHAIN), ("a",)), (False, True))
            self.assertEqual(table_of(chain("xor", CHAIN), ("a", "b")), (False,) * 4)


class Reading(unittest.TestCase):
    def test_inputs_of(self):
        for many in range(7):
            self.assertEqual(inputs_of((True,) * 2 ** many), many)

    def test_look_up(self):
        table = (False, True, False, False)
        self.assertIs(look_up(table, (False, False)), False)
        self.assertIs(look_up(table, (True, False)), True)
        self.assertIs(look_up(table, (False, True)), False)
        self.assertIs(look_up((True,), ()), True)
        for place in range(64):
            table = tuple(row == place for row in range(64))
            self.assertEqual([bits for bits in assignments(6) if look_up(table, bits)],
                             [tuple(bool((place >> j) & 1) for j in range(6))])

    def test_depends_on(self):
        self.assertEqual(depends_on((True,)), [])
        self.assertEqual(depends_on((False, True)), [0])
        self.assertEqual(depends_on((True, True)), [])
        self.assertEqual(depends_on((False, False, True, True)), [1])
        self.assertEqual(depends_on((False, True, False, False)), [0, 1])
        for table in some_tables():
            self.assertEqual(depends_on(table), depends_by_trying(table))

    def test_depends_on_one_row_only(self):
        for place in range(64):
            self.assertEqual(depends_on(tuple(row == place for row in range(64))), [0, 1, 2, 3, 4, 5])


class Forcing(unittest.TestCase):
    def test_small_ones(self):
        conjunction = (False, False, False, True)
        self.assertIs(forced(conjunction, (-1, -1)), None)
        self.assertIs(forced(conjunction, (0, -1)), False)
        self.assertIs(forced(conjunction, (-1, 0)), False)
        self.assertIs(forced(conjunction, (1, -1)), None)
        self.assertIs(forced(conjunction, (1, 1)), True)
        self.assertIs(forced((True,), ()), True)
        self.assertIs(forced((False,), ()), False)
        self.assertIs(forced((True, True), (-1,)), True)
        self.assertIs(forced((False, True), (-1,)), None)
        self.assertIs(forced((False, True, False, False), (0, -1)), False)

    def test_against_every_assignment(self):
        for table in some_tables():
            many = inputs_of(table)
            for partial in partials(many) if many < 6 else partials(many)[::7]:
                self.assertIs(forced(table, partial), forced_by_trying(table, partial))


class Cubes(unittest.TestCase):
    def test_small_ones(self):
        conjunction = (False, False, False, True)
        self.assertEqual(cubes(conjunction, False), [(-1, 0), (0, -1)])
        self.assertEqual(cubes(conjunction, True), [(1, 1)])
        exclusive = (False, True, True, False)
        self.assertEqual(cubes(exclusive, True), [(0, 1), (1, 0)])
        self.assertEqual(cubes(exclusive, False), [(0, 0), (1, 1)])
        self.assertEqual(cubes((False, True), True), [(1,)])
        self.assertEqual(cubes((False, True), False), [(0,)])

    def test_constants(self):
        for many in range(7):
            for value in (False, True):
                table = (value,) * 2 ** many
                self.assertEqual(cubes(table, value), [(-1,) * many])
                self.assertEqual(cubes(table, not value), [])

    def test_a_choice_has_the_cube_that_needs_no_choice(self):
        table = table_of(parse_expression("a & b | !a & c"), ("a", "b", "c"))
        self.assertEqual(cubes(table, True), [(-1, 1, 1), (0, -1, 1), (1, 1, -1)])
        self.assertEqual(cubes(table, False), [(-1, 0, 0), (0, -1, 0), (1, 0, -1)])

    def test_against_trying_all(self):
        for table in some_tables():
            for value in (False, True):
                self.assertEqual(cubes(table, value), cubes_by_trying(table, value))

    def test_cubes_tell_what_is_forced(self):
        for table in some_tables()[-40:]:
            for value in (False, True):
                found = cubes(table, value)
                self.assertEqual(found, sorted(set(found)))
                for partial in partials(inputs_of(table))[::5]:
                    hit = any(all(known in (-1, partial[k]) for k, known in enumerate(cube)) for cube in found)
                    self.assertEqual(hit, forced(table, partial) is value)

    def test_the_list_is_new(self):
        found = cubes((False, True), True)
        found.append(())
        self.assertEqual(cubes((False, True), True), [(1,)])


if __name__ == "__main__":
    unittest.main()
