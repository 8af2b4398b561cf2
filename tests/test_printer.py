"""Points 1.7 to 1.9."""

import random
import unittest

from signoff.parser import parse_deck, parse_expression
from signoff.printer import show_deck, show_expression
from tests.helpers import const, few_calls, name

A, B, C = name("a"), name("b"), name("c")
BINARY = ("or", "xor", "and")
LEVELS = {"or": 1, "xor": 2, "and": 3}
SIGNS = {"or": "|", "xor": "^", "and": "&"}

EXAMPLE = """\
cell nand2(a, b) = !(a & b) {
  pin a 3..6;
  pin b 4..8;
}
cell one() = 1 {
}
module half(x, y) -> (s, c) {
  gate s = exor(x, y);
  gate c = both(x, y);
}
module top(a) -> (q, c) {
  part u: (d, c) = half(a, q);
  reg q = d edge 0..2 out 3..5 setup 1 hold 1 start 0;
}
"""


def trees(many, leaves):
    """All trees with exactly so many operators; the leaves are taken from a list."""
    if many == 0:
        return list(leaves)
    found = [("not", tree) for tree in trees(many - 1, leaves)]
    for left in range(many):
        found += [(kind, one, other) for kind in BINARY
                  for one in trees(left, leaves) for other in trees(many - 1 - left, leaves)]
    return found


def without_pairs(text):
    """The texts in which one pair of brackets is left out."""
    opened = []
    for at, character in enumerate(text):
        if character == "(":
            opened.append(at)
        elif character == ")":
            first = opened.pop()
            yield text[:first] + text[first + 1:at] + text[at + 1:]


class Expressions(unittest.TestCase):
    def test_examples(self):
        tree = ("xor", ("and", ("not", ("or", A, B)), C), const(True))
        self.assertEqual(show_expression(tree), "!(a | b) & c ^ 1")
        self.assertEqual(show_expression(("and", A, ("and", B, const(True)))), "a & (b & 1)")

    def test_atoms_and_negations(self):
        for tree, text in (
                (A, "a"), (name("x_1"), "x_1"), (const(False), "0"), (const(True), "1"), (("not", A), "!a"),
                (("not", const(False)), "!0"), (("not", ("not", A)), "!!a"),
                (("not", ("not", ("not", const(True)))), "!!!1")):
            self.assertEqual(show_expression(tree), text)

    def test_under_not(self):
        for kind in BINARY:
            self.assertEqual(show_expression(("not", (kind, A, B))), f"!(a {SIGNS[kind]} b)")
            self.assertEqual(show_expression((kind, ("not", A), ("not", B))), f"!a {SIGNS[kind]} !b")
            self.assertEqual(show_expression(("not", ("not", (kind, A, B)))), f"!!(a {SIGNS[kind]} b)")

    def test_every_pair_of_operators(self):
        for outer in BINARY:
            for inner in BINARY:
                text = f"a {SIGNS[inner]} b"
                left = text if LEVELS[inner] >= LEVELS[outer] else f"({text})"
                right = text if LEVELS[inner] > LEVELS[outer] else f"({text})"
                with self.subTest(outer=outer, inner=inner):
                    self.assertEqual(show_expression((outer, (inner, A, B), C)), f"{left} {SIGNS[outer]} c")
                    self.assertEqual(show_expression((outer, C, (inner, A, B))), f"c {SIGNS[outer]} {right}")

    def test_some_longer_ones(self):
        for text in ("a | b | c", "a & b & c & a", "a | (b | c)", "(a | b) & (b | c)", "a ^ b & c | !a",
                     "!(!a & !!b)", "a & (b ^ (c | 1) & 0)", "!(a ^ b) ^ !(b ^ c)", "(a ^ b) & !(b | 0)"):
            self.assertEqual(show_expression(parse_expression(text)), text)

    def test_brackets_that_are_not_needed_are_left_out(self):
        for text, shown in (("((a))", "a"), ("(a & b) & c", "a & b & c"), ("(a & b) | (b & c)", "a & b | b & c"),
                            ("!(a)", "!a"), ("!(!a)", "!!a"), ("(!a) & b", "!a & b"), ("a|(b^(c&(!a)))",
                                                                                 "a | b ^ c & !a")):
            self.assertEqual(show_expression(parse_expression(text)), shown)

    def test_small_trees_are_read_back_and_need_each_bracket(self):
        for many in range(4):
            for tree in trees(many, (A, const(True)) if many < 3 else (A,)):
                text = show_expression(tree)
                self.assertEqual(parse_expression(text), tree)
                for shorter in without_pairs(text):
                    self.assertNotEqual(parse_expression(shorter), tree, text)

    def test_high_trees(self):
        tree = A
        for _ in range(19):
            tree = ("or", B, tree)
        text = show_expression(tree)
        self.assertEqual(text, "b | (" * 18 + "b | a" + ")" * 18)
        self.assertEqual(parse_expression(text), tree)
        text = "!(a | b & " * 6 + "1" + ")" * 6
        self.assertEqual(show_expression(parse_expression(text)), text)


def random_tree(source, height):
    kind = source.choice(("name", "const", "not") + BINARY * 2)
    if height == 1 or kind in ("name", "const"):
        return source.choice([A, B, C, name("z_9"), const(False), const(True)])
    if kind == "not":
        return ("not", random_tree(source, height - 1))
    return (kind, random_tree(source, height - 1), random_tree(source, height - 1))


def random_number(source):
    return source.randrange(10 ** source.randrange(10))


def random_names(source):
    return tuple(source.choice(["a", "b7", "c_", "dd", "pins"]) for _ in range(source.choice([0, 1, 2, 5])))


def random_item(source):
    kind = source.choice(("gate", "part", "reg"))
    if kind == "gate":
        return (kind, "g", "inv", random_names(source))
    if kind == "part":
        return (kind, "u", random_names(source), "half", random_names(source))
    numbers = [random_number(source) for _ in range(6)]
    return (kind, "q", "d", tuple(numbers[:2]), tuple(numbers[2:4]), numbers[4], numbers[5],
            source.choice([False, True]))


def random_deck(source):
    cells = tuple(
        ("f", random_names(source), random_tree(source, source.randrange(1, 8)),
         tuple((pin, random_number(source), random_number(source)) for pin in random_names(source)))
        for _ in range(source.randrange(4)))
    modules = tuple(
        ("m", random_names(source), random_names(source),
         tuple(random_item(source) for _ in range(source.randrange(6))))
        for _ in range(source.randrange(4)))
    return cells, modules


class Decks(unittest.TestCase):
    def test_example_of_the_document(self):
        self.assertEqual(show_deck(parse_deck(EXAMPLE)), EXAMPLE)

    def test_empty_deck(self):
        self.assertEqual(show_deck(((), ())), "")

    def test_cells_stand_before_modules(self):
        text = "module m()->(){} cell f()=0{} module n()->(){} cell g()=1{}"
        self.assertEqual(show_deck(parse_deck(text)),
                         "cell f() = 0 {\n}\ncell g() = 1 {\n}\nmodule m() -> () {\n}\nmodule n() -> () {\n}\n")

    def test_each_line(self):
        for line in ("gate g = c();", "gate g = c(a);", "gate g = c(a, b, a);", "part u: () = m();",
                     "part u: (d) = m();", "part u: (d, e) = m(a, b, c);", "part u: () = m(a);",
                     "reg q = d edge 0..0 out 0..12 setup 0 hold 999999999 start 1;",
                     "reg q = d edge 10..20 out 300..4000 setup 50000 hold 600000 start 0;"):
            with self.subTest(line):
                text = "module m(x) -> (y, z) {\n  " + line + "\n}\n"
                self.assertEqual(show_deck(parse_deck(text)), text)
                self.assertEqual(show_deck(parse_deck(text.replace("\n", " # a\n").replace(" ", "  "))), text)

    def test_numerals_of_all_lengths(self):
        for many in range(1, 10):
            text = "cell f(a) = a {\n  pin a " + "1" * many + ".." + "9" * many + ";\n}\n"
            self.assertEqual(show_deck(parse_deck(text)), text)

    def test_random_decks_are_read_back(self):
        source = random.Random(7)
        for _ in range(300):
            deck = random_deck(source)
            text = show_deck(deck)
            self.assertEqual(parse_deck(text), deck)
            self.assertEqual(show_deck(parse_deck(text)), text)
            self.assertTrue(text == "" or text.endswith("\n"))
            self.assertNotIn("\n\n", text)
            self.assertFalse(any(line.endswith(" ") for line in text.split("\n")))

    def test_few_calls(self):
        with few_calls(100):
            deck = parse_deck("cell f(a) = " + "!" * 19 + "a { }" * 1 + "module m() -> () { " + "gate g = f(a);" * 500
                              + "}")
            self.assertEqual(parse_deck(show_deck(deck)), deck)


if __name__ == "__main__":
    unittest.main()
