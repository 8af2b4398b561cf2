"""Points 1.3 to 1.6."""

import unittest

from signoff.errors import BadSyntax, BadToken, TooDeep
from signoff.parser import parse_deck, parse_expression
from signoff.tokens import tokenize
from tests.helpers import CHAIN, const, few_calls, name, syntax_fault

A, B, C, D = name("a"), name("b"), name("c"), name("d")
KEYWORDS = "cell pin module gate part reg edge out setup hold start".split()
SIGNS = "( ) { } , ; : = -> .. & | ^ !".split()
TOKENS = KEYWORDS + SIGNS + ["a", "0", "1", "2", "999999999"]

DECK = """
module early() -> () { }
cell nand2(a, b) = !(a & b) ^ 0 | 1 {
  pin a 3..6; # slow
  pin b 4..8;
}
cell one() = 1 { }
module top(a) -> (q, c) {
  part u: (d, c) = half(a, q);
  part v: () = early();
  gate g = one();
  gate h = nand2(a, g);
  reg q = d edge 0..2 out 3..5 setup 1 hold 7 start 0;
  reg r = q edge 10..0 out 0..0 setup 0 hold 123456789 start 1;
}
cell inv(a) = !a { pin a 1..3; }
"""


class Expressions(unittest.TestCase):
    def same(self, text, tree):
        with self.subTest(text):
            self.assertEqual(parse_expression(text), tree)

    def test_atoms(self):
        self.same("a", A)
        self.same("b_2c", name("b_2c"))
        self.same("0", const(False))
        self.same("1", const(True))
        self.assertIs(parse_expression("0")[1], False)
        self.assertIs(parse_expression("1")[1], True)

    def test_grouping_to_the_left(self):
        for sign, kind in (("&", "and"), ("^", "xor"), ("|", "or")):
            self.same(f"a {sign} b", (kind, A, B))
            self.same(f"a{sign}b{sign}c", (kind, (kind, A, B), C))
            self.same(f"a {sign} b {sign} c {sign} d", (kind, (kind, (kind, A, B), C), D))
            self.same(f"a {sign} (b {sign} c)", (kind, A, (kind, B, C)))
            self.same(f"(a {sign} b) {sign} (c {sign} d)", (kind, (kind, A, B), (kind, C, D)))

    def test_levels(self):
        self.same("a | b ^ c", ("or", A, ("xor", B, C)))
        self.same("a ^ b | c", ("or", ("xor", A, B), C))
        self.same("a | b & c", ("or", A, ("and", B, C)))
        self.same("a & b | c", ("or", ("and", A, B), C))
        self.same("a ^ b & c", ("xor", A, ("and", B, C)))
        self.same("a & b ^ c", ("xor", ("and", A, B), C))
        self.same("a | b ^ c & d", ("or", A, ("xor", B, ("and", C, D))))
        self.same("a & b ^ c | d", ("or", ("xor", ("and", A, B), C), D))
        self.same("a & b | c & d", ("or", ("and", A, B), ("and", C, D)))
        self.same("a ^ b | c ^ d", ("or", ("xor", A, B), ("xor", C, D)))
        self.same("!a & b", ("and", ("not", A), B))
        self.same("!a | !b ^ !c", ("or", ("not", A), ("xor", ("not", B), ("not", C))))

    def test_not(self):
        self.same("!a", ("not", A))
        self.same("!!a", ("not", ("not", A)))
        self.same("!0", ("not", const(False)))
        self.same("!(a & b)", ("not", ("and", A, B)))
        self.same("!(!a)", ("not", ("not", A)))
        self.same("a & !!b", ("and", A, ("not", ("not", B))))

    def test_brackets_leave_no_trace(self):
        self.same("(a)", A)
        self.same("(((1)))", const(True))
        self.same("((a) & ((b)))", ("and", A, B))
        self.same("(a | b) & c", ("and", ("or", A, B), C))
        self.same("a & (b | c)", ("and", A, ("or", B, C)))
        self.same("(a & b) | c", ("or", ("and", A, B), C))

    def test_spaces_and_comments(self):
        self.same(" a\n&# and\nb # end", ("and", A, B))

    def test_example_of_printing(self):
        self.same("!(a | b) & c ^ 1", ("xor", ("and", ("not", ("or", A, B)), C), const(True)))


class Decks(unittest.TestCase):
    def cell(self, text):
        cells, modules = parse_deck(text)
        self.assertEqual((len(cells), modules), (1, ()))
        return cells[0]

    def item(self, text):
        cells, modules = parse_deck("module m() -> () { " + text + " }")
        self.assertEqual((cells, len(modules)), ((), 1))
        self.assertEqual(modules[0][:3], ("m", (), ()))
        self.assertEqual(len(modules[0][3]), 1)
        return modules[0][3][0]

    def test_empty(self):
        for text in ("", "\n", "# nothing"):
            self.assertEqual(parse_deck(text), ((), ()))

    def test_cells(self):
        self.assertEqual(self.cell("cell c() = 0 { }"), ("c", (), const(False), ()))
        self.assertEqual(self.cell("cell inv(a) = !a { pin a 1..3; }"),
                         ("inv", ("a",), ("not", A), (("a", 1, 3),)))
        self.assertEqual(
            self.cell("cell f(a,b,c)=a&b|c{pin c 0..2;pin a 30..456789;pin b 7..999999999;}"),
            ("f", ("a", "b", "c"), ("or", ("and", A, B), C),
             (("c", 0, 2), ("a", 30, 456789), ("b", 7, 999999999))))

    def test_what_is_not_checked_here(self):
        self.assertEqual(self.cell("cell f(a, a) = b { pin c 9..1; pin c 0..0; }"),
                         ("f", ("a", "a"), B, (("c", 9, 1), ("c", 0, 0))))
        many = ("a", "b", "c", "d", "e", "f", "g", "h")
        self.assertEqual(self.cell("cell f(" + ", ".join(many) + ") = 1 { }"), ("f", many, const(True), ()))

    def test_modules(self):
        self.assertEqual(parse_deck("module m() -> () { }"), ((), (("m", (), (), ()),)))
        self.assertEqual(parse_deck("module m(a) -> (b, c, b) { }"),
                         ((), (("m", ("a",), ("b", "c", "b"), ()),)))
        self.assertEqual(parse_deck("module m(a, b) -> (c) { }"), ((), (("m", ("a", "b"), ("c",), ()),)))

    def test_gates(self):
        self.assertEqual(self.item("gate g = c();"), ("gate", "g", "c", ()))
        self.assertEqual(self.item("gate g = c(x);"), ("gate", "g", "c", ("x",)))
        self.assertEqual(self.item("gate s = exor(x, y, x);"), ("gate", "s", "exor", ("x", "y", "x")))

    def test_parts(self):
        self.assertEqual(self.item("part u: () = m();"), ("part", "u", (), "m", ()))
        self.assertEqual(self.item("part u: (d, c) = half(a, q);"),
                         ("part", "u", ("d", "c"), "half", ("a", "q")))
        self.assertEqual(self.item("part u: (d) = k();"), ("part", "u", ("d",), "k", ()))
        self.assertEqual(self.item("part u: () = k(d);"), ("part", "u", (), "k", ("d",)))

    def test_regs(self):
        self.assertEqual(self.item("reg q = d edge 0..2 out 3..5 setup 1 hold 4 start 0;"),
                         ("reg", "q", "d", (0, 2), (3, 5), 1, 4, False))
        reg = self.item("reg q = q edge 12..11 out 99..0 setup 0 hold 123456789 start 1;")
        self.assertEqual(reg, ("reg", "q", "q", (12, 11), (99, 0), 0, 123456789, True))
        self.assertIs(reg[7], True)

    def test_a_whole_deck_in_mixed_order(self):
        cells, modules = parse_deck(DECK)
        self.assertEqual([cell[0] for cell in cells], ["nand2", "one", "inv"])
        self.assertEqual([module[0] for module in modules], ["early", "top"])
        self.assertEqual(cells[0], (
            "nand2", ("a", "b"),
            ("or", ("xor", ("not", ("and", A, B)), const(False)), const(True)),
            (("a", 3, 6), ("b", 4, 8))))
        self.assertEqual(modules[1], ("top", ("a",), ("q", "c"), (
            ("part", "u", ("d", "c"), "half", ("a", "q")),
            ("part", "v", (), "early", ()),
            ("gate", "g", "one", ()),
            ("gate", "h", "nand2", ("a", "g")),
            ("reg", "q", "d", (0, 2), (3, 5), 1, 7, False),
            ("reg", "r", "q", (10, 0), (0, 0), 0, 123456789, True))))

    def test_all_is_tuples(self):
        def check(value):
            self.assertIn(type(value), (tuple, str, int, bool))
            if isinstance(value, tuple):
                for part in value:
                    check(part)
        check(parse_deck(DECK))


class SyntaxFaults(unittest.TestCase):
    def fault(self, text, read=parse_deck):
        with self.assertRaises(BadSyntax, msg=text) as caught:
            read(text)
        return caught.exception.at

    def test_expressions(self):
        for text, at in (
                ("", 0), ("# a", 0), ("a b", 1), ("a 1", 1), ("a !", 1), ("a & ", 2), ("a |", 2), ("a ^", 2),
                ("!", 1), ("!!", 2), ("! & a", 1), ("& a", 0), ("a & & b", 2), ("a | & b", 2), ("(", 1),
                (")", 0), ("()", 1), ("(a", 2), ("(a b)", 2), ("(a))", 3), ("a)", 1), ("a & b)", 3),
                ("a & (b", 4), ("2", 0), ("a & 2", 2), ("10", 0), ("cell", 0), ("a & pin", 2), ("a = b", 1),
                ("a ..", 1), ("a;", 1), ("(a;)", 2), ("a & (b | c) d", 7), ("!(a) !", 4)):
            with self.subTest(text):
                self.assertEqual(self.fault(text, parse_expression), at)
                self.assertEqual(syntax_fault("EXPRESSION", tokenize(text)), at)

    def test_decks(self):
        for text, at in (
                ("a", 0), ("cells", 0), (";", 0), ("cell", 1), ("cell cell", 1), ("cell 1", 1), ("cell f", 2),
                ("cell f =", 2), ("cell f(", 3), ("cell f(,", 3), ("cell f(a", 4), ("cell f(a b", 4),
                ("cell f(a,", 5), ("cell f(a,)", 5), ("cell f(1)", 3), ("cell f(pin)", 3), ("cell f()", 4),
                ("cell f() {", 4), ("cell f() =", 5), ("cell f() = {", 5), ("cell f() = 2", 5),
                ("cell f() = 1 }", 6), ("cell f() = 1 {", 7), ("cell f() = 1 { pin", 8),
                ("cell f() = 1 { pin 1..2;", 8), ("cell f() = 1 { pin a", 9), ("cell f() = 1 { pin a b", 9),
                ("cell f() = 1 { pin a 1;", 10), ("cell f() = 1 { pin a 1..", 11),
                ("cell f() = 1 { pin a 1..b", 11), ("cell f() = 1 { pin a 1..2 }", 12),
                ("cell f() = 1 { gate", 7), ("cell f() = 1 { } }", 8), ("cell f() = 1 { } ;", 8),
                ("module", 1), ("module m", 2), ("module m()", 4), ("module m() =", 4), ("module m() ->", 5),
                ("module m() -> a", 5), ("module m() -> (", 6), ("module m() -> () =", 7),
                ("module m() -> () { pin", 8), ("module m() -> () { gate", 9),
                ("module m() -> () { gate g :", 10), ("module m() -> () { gate g = 1", 11),
                ("module m() -> () { gate g = c;", 12), ("module m() -> () { gate g = c() }", 14),
                ("module m() -> () { part u =", 10), ("module m() -> () { part u: d", 11),
                ("module m() -> () { part u: () half", 13), ("module m() -> () { part u: () = ;", 14),
                ("module m() -> () { reg q : d", 10), ("module m() -> () { reg q = d out", 12),
                ("module m() -> () { reg q = d edge 1 ..", 15),
                ("module m() -> () { reg q = d edge 0..2 setup", 16),
                ("module m() -> () { reg q = d edge 0..2 out 1..2 setup a", 21),
                ("module m() -> () { reg q = d edge 0..2 out 1..2 setup 1..2", 22),
                ("module m() -> () { reg q = d edge 0..2 out 1..2 setup 1 hold 2 start 2;", 25),
                ("module m() -> () { reg q = d edge 0..2 out 1..2 setup 1 hold 2 start a;", 25),
                ("module m() -> () { reg q = d edge 0..2 out 1..2 setup 1 hold 2 start 0 }", 26),
                ("module m() -> () { } module", 10)):
            with self.subTest(text):
                self.assertEqual(self.fault(text), at)
                self.assertEqual(syntax_fault("DECK", tokenize(text)), at)

    def test_every_beginning_of_a_deck(self):
        tokens = tokenize(DECK)
        whole = 0
        for many in range(len(tokens) + 1):
            fault = syntax_fault("DECK", tokens[:many])
            if fault is None:
                whole += 1
                parse_deck(" ".join(tokens[:many]))
            else:
                self.assertEqual(fault, many)
                self.assertEqual(self.fault(" ".join(tokens[:many])), many)
        self.assertEqual(whole, 6)

    def compare(self, tokens, rule, read):
        text = " ".join(tokens)
        fault = syntax_fault(rule, tokens)
        if fault is None:
            read(text)
        else:
            self.assertEqual(self.fault(text, read), fault, text)

    def test_one_token_changed_in_a_deck(self):
        tokens = tokenize(DECK)
        for at in range(len(tokens) + 1):
            self.compare(tokens[:at] + tokens[at + 1:], "DECK", parse_deck)
            for k, token in enumerate(TOKENS):
                if (k + at) % 3 == 0:
                    self.compare(tokens[:at] + [token] + tokens[at + 1:], "DECK", parse_deck)
                elif (k + at) % 3 == 1:
                    self.compare(tokens[:at] + [token] + tokens[at:], "DECK", parse_deck)

    def test_every_short_list_of_tokens_of_an_expression(self):
        tokens = ["a", "1", "2", "&", "|", "^", "!", "(", ")"]
        lists = [[]]
        for _ in range(4):
            lists = lists + [row + [token] for row in lists if len(row) == len(lists[-1]) for token in tokens]
            for row in lists:
                if len(row) == len(lists[-1]):
                    self.compare(row, "EXPRESSION", parse_expression)
        self.assertEqual(len(lists), 1 + 9 + 81 + 729 + 6561)


class Depths(unittest.TestCase):
    def raises(self, error, text, read=parse_expression):
        with self.assertRaises(error, msg=text[:80]) as caught:
            read(text)
        self.assertIs(type(caught.exception), error)
        return caught.exception

    def both_ways(self, error, text):
        self.raises(error, text)
        self.raises(error, "cell f() = " + text + " { }", parse_deck)

    def test_brackets(self):
        self.assertEqual(parse_expression("(" * 20 + "a" + ")" * 20), A)
        parse_deck("cell f() = " + "(" * 20 + "a" + ")" * 20 + " { }")
        self.both_ways(TooDeep, "(" * 21 + "a" + ")" * 21)
        self.both_ways(TooDeep, "(" * 21)
        self.assertEqual(self.raises(BadSyntax, "(" * 20).at, 20)
        self.assertEqual(parse_expression("(a) & " * 19 + "(a)"), parse_expression("a & " * 19 + "a"))

    def test_brackets_that_are_closed_again(self):
        text = "(" * 19 + "(a) & (a)" + ")" * 19
        self.assertEqual(parse_expression(text), ("and", A, A))
        self.both_ways(TooDeep, "(" * 19 + "(a) & ((a))" + ")" * 19)

    def test_closing_brackets_without_an_opening_one(self):
        self.assertEqual(self.raises(BadSyntax, ")" + "(" * 21).at, 0)
        self.raises(TooDeep, ")" + "(" * 22)
        self.assertEqual(self.raises(BadSyntax, "a" + ")" * 5 + "(" * 25).at, 1)
        self.raises(TooDeep, "a" + ")" * 5 + "(" * 26)
        self.assertEqual(self.raises(BadSyntax, ")" * 30).at, 0)

    def test_brackets_anywhere_in_a_deck_count(self):
        self.raises(TooDeep, "(" * 21, parse_deck)
        self.raises(TooDeep, "module m(" + "(" * 20, parse_deck)
        self.assertEqual(self.raises(BadSyntax, "module m(" + "(" * 19, parse_deck).at, 3)
        cell = "cell f(a) = " + "(" * 20 + "a" + ")" * 20 + " { }"
        parse_deck(cell * 3 + "module m() -> () { part u: () = m(); }")

    def test_only_round_brackets_count(self):
        self.assertEqual(self.raises(BadSyntax, "{" * 30, parse_deck).at, 0)
        self.assertEqual(self.raises(BadSyntax, "(" * 10 + "{" * 30).at, 10)
        self.raises(TooDeep, "(" * 20 + "}}" + "(")

    def test_negations(self):
        self.assertEqual(parse_expression("!" * 19 + "a")[0], "not")
        self.raises(TooDeep, "!" * 20 + "a")
        self.assertEqual(self.raises(BadSyntax, "!" * 20).at, 20)
        self.both_ways(TooDeep, "!" * 21 + "a")
        self.both_ways(TooDeep, "!" * 21)
        self.assertEqual(self.raises(BadSyntax, "!" * 20 + "& !").at, 20)
        self.raises(TooDeep, "! " * 10 + "# more\n" + "!\n" * 11)
        self.raises(TooDeep, "a b " + "!" * 21)

    def test_negations_with_something_between(self):
        self.assertEqual(self.raises(BadSyntax, "!" * 20 + "(" + "!" * 20).at, 41)
        self.raises(TooDeep, "!" * 20 + "(" + "!" * 21)
        self.raises(TooDeep, "!" * 10 + "(" + "!" * 10 + "a)")

    def test_height(self):
        for sign in "&^|":
            parse_expression(f"a {sign} " * 19 + "a")
            self.both_ways(TooDeep, f"a {sign} " * 20 + "a")
            parse_expression(f"(a {sign} " * 19 + "a" + ")" * 19)
            self.both_ways(TooDeep, f"(a {sign} " * 20 + "a" + ")" * 20)
            parse_expression(f"a {sign} " * 18 + "!a")
            parse_expression("!(" + f"a {sign} " * 18 + "a)")
            self.both_ways(TooDeep, "!(" + f"a {sign} " * 19 + "a)")
            self.both_ways(TooDeep, f"!a {sign} " + f"a {sign} " * 18 + "a")
        self.both_ways(TooDeep, "!" * 20 + "a")

    def test_height_in_any_cell(self):
        good = "cell f(a) = a { }"
        bad = "cell f(a) = " + "!" * 20 + "a { pin a 1..2; }"
        for text in (bad + good, good + bad, good + "module m() -> () { }" + bad):
            self.raises(TooDeep, text, parse_deck)

    def test_errors_in_their_order(self):
        token, syntax = " - ", " ) "
        brackets, high = "(" * 21, "!" * 20 + "a"
        for text in (token + brackets, brackets + token, syntax + token, "a b" + token, high + token):
            self.assertEqual(self.raises(BadToken, text).at, text.index("-"))
        for text in ("a b " + brackets, "a b " + "!" * 21, brackets + syntax, high + " a " + brackets):
            self.raises(TooDeep, text)
        self.assertEqual(self.raises(BadSyntax, high + " b").at, 21)
        self.assertEqual(self.raises(BadSyntax, "a & " * 30).at, 60)
        text = "cell f() = " + high + " { } cell"
        self.assertEqual(self.raises(BadSyntax, text, parse_deck).at, 29)
        self.assertEqual(self.raises(BadToken, text + " 01", parse_deck).at, text.index("} cell") + 7)

    def test_long_chains(self):
        with few_calls():
            for sign in "&^|":
                chain = f"a {sign} " * CHAIN + "a"
                self.both_ways(TooDeep, chain)
                self.assertEqual(self.raises(BadSyntax, chain + " a").at, 2 * CHAIN + 1)
                self.assertEqual(self.raises(BadSyntax, chain + f" {sign}").at, 2 * CHAIN + 2)

    def test_deep_brackets_need_few_calls(self):
        with few_calls():
            self.assertEqual(parse_expression("(" * 20 + "a" + ")" * 20), A)
            self.assertEqual(self.raises(BadSyntax, "!(a | b ^ c & " * 20).at, 160)
            self.both_ways(TooDeep, "!(a | b ^ c & " * 20 + "a" + ")" * 20)

    def test_long_decks(self):
        cell = "cell f(a) = !a { pin a 1..3; }\n"
        module = "module m(a) -> (b) { " + "gate g = f(a);" * 300 + "}\n"
        with few_calls():
            cells, modules = parse_deck(cell * 300 + module * 3)
        self.assertEqual((len(cells), len(modules), len(modules[2][3])), (300, 3, 300))


if __name__ == "__main__":
    unittest.main()
