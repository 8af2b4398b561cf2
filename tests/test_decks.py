"""Points 3.7 and 3.8."""

import copy
import itertools
import random
import unittest

from signoff.circuits import check_circuit, gate_order
from signoff.decks import check_deck, flatten, module_size
from signoff.errors import (BadNet, BadRange, Looped, NameClash, Recursive, TooDeep, TooLarge,
                            UnknownName, WrongCount)
from signoff.meaning import settle
from signoff.parser import parse_deck
from tests.helpers import const, few_calls, name
from tests.makers import vectors

SOUND = """
cell inv(a) = !a { pin a 1..3; }
cell and2(a, b) = a & b { pin b 2..6; pin a 1..4; }
cell one() = 1 { }
cell wide(a, b, c, d, e, f) = a | f { pin a 1..3; pin c 1..3; pin b 1..3; pin f 1..3; pin e 1..3; pin d 1..3; }
module leaf(x, y) -> (p, q) {
  gate p = and2(x, q);
  reg q = y edge 0..1 out 1..2 setup 0 hold 0 start 1;
}
module none() -> () { }
module top(i, j) -> (o, m, g) {
  part u: (m, n) = leaf(i, g);
  part v: (o, k) = leaf(n, v);
  part w: () = none();
  gate g = inv(j);
  gate v = one();
}
"""
# For each rule, in order, several ways to break it alone: what is added to the text. The names
# are all different, so that any two ways can be combined.
LEAF = "(x, y) -> (p, q)"
REG = "edge 0..1 out 1..2 setup 0 hold 0 start 0;"
BROKEN = (
    (NameClash, [
        "cell inv(a) = a { pin a 1..3; }",
        "cell top() = 1 { }",
        "module top() -> () { }",
        "module one() -> () { }",
        "cell n1(a, b, a) = a { pin a 1..3; pin b 1..3; pin a 1..3; }",
        "module n2(a, b, a) -> () { }",
        "module n3(a) -> () { gate a = one(); }",
        f"module n4(a) -> () {{ reg a = a {REG} }}",
        "module n5(a) -> () { part u: (a, b) = leaf(a, a); }",
        "module n6() -> () { gate g = one(); gate g = one(); }",
        f"module n7(a) -> () {{ gate g = inv(a); reg g = a {REG} }}",
        f"module n8(a) -> () {{ reg r = a {REG} reg r = a {REG} }}",
        "module n9(a) -> () { part u: (b, b) = leaf(a, a); }",
        "module n10(a) -> () { part u: (b, c) = leaf(a, a); part v: (d, c) = leaf(a, a); }",
        "module n11(a) -> () { part u: (b, g) = leaf(a, a); gate g = one(); }",
        "module n12() -> () { part u: () = none(); part u: () = none(); }",
        "module n13() -> (g, h, g) { gate g = one(); gate h = one(); }",
    ]),
    (UnknownName, [
        "cell u1(a) = b { pin a 1..3; }",
        "cell u2(a) = !(a & (1 | u2)) { pin a 1..3; }",
        "cell u3(a) = a { pin b 1..3; }",
        "cell u4(a) = a { pin a 1..3; pin b 1..3; }",
        "module u5() -> () { gate g = nowhere(); }",
        "module u6() -> () { gate g = none(); }",
        "module u7() -> () { part u: () = nowhere(); }",
        "module u8() -> () { part u: () = one(); }",
        "module u9() -> () { gate g = inv(nowhere); }",
        "module u10(a) -> () { part u: (p, q) = leaf(a, nowhere); }",
        f"module u11(a) -> () {{ reg r = nowhere {REG} }}",
        "module u12(a) -> (a2) { }",
        "module u13(a) -> () { part u: (p, q) = leaf(a, u); }",
        "module u14(a) -> () { gate g = inv(inv); }",
        "module u15(a) -> (u) { part u: (p, q) = leaf(a, a); }",
        "module u16(a) -> (x) { part u: (p, q) = leaf(a, a); }",
    ]),
    (WrongCount, [
        "cell w1(a, b, c, d, e, f, g) = a { pin a 1..3; pin b 1..3; pin c 1..3; pin d 1..3; pin e 1..3; "
        "pin f 1..3; pin g 1..3; }",
        "cell w2(a) = a { }",
        "cell w3(a, b) = a { pin a 1..3; }",
        "cell w4(a, b) = a { pin a 1..3; pin b 1..3; pin b 1..3; }",
        "cell w5(a, b) = a { pin a 1..3; pin a 1..3; }",
        "module w6(a) -> () { gate g = inv(); }",
        "module w7(a) -> () { gate g = inv(a, a); }",
        "module w8(a) -> () { gate g = one(a); }",
        "module w9(a) -> () { part u: (p, q) = leaf(a); }",
        "module w10(a) -> () { part u: (p, q) = leaf(a, a, a); }",
        "module w11(a) -> () { part u: (p) = leaf(a, a); }",
        "module w12(a) -> () { part u: (p, q, r) = leaf(a, a); }",
        "module w13(a) -> () { part u: () = leaf(); }",
        "module w14(a) -> () { part u: () = none(a); }",
        "module w15(a) -> () { part u: (b) = none(); }",
    ]),
    (BadRange, [
        "cell b1(a) = a { pin a 1..2; }",
        "cell b2(a, b) = a { pin a 1..3; pin b 5..5; }",
        "cell b3(a) = a { pin a 9..3; }",
        "module b4(a) -> () { reg r = a edge 2..1 out 1..2 setup 0 hold 0 start 0; }",
        "module b5(a) -> () { reg r = a edge 0..1 out 3..2 setup 0 hold 0 start 0; }",
        "module b6(a) -> () { reg r = a edge 0..1 out 1..2 setup 0 hold 2 start 0; }",
        "module b7(a) -> () { reg r = a edge 0..0 out 0..0 setup 0 hold 0 start 0; }",
        ((("b8", ("a",), name("a"), (("a", -1, 3),)),), ()),
        ((), (("b9", ("a",), (), (("reg", "r", "a", (-1, 1), (1, 2), 0, 0, False),)),)),
        ((), (("b10", ("a",), (), (("reg", "r", "a", (0, 1), (-1, 2), 0, 0, False),)),)),
        ((), (("b11", ("a",), (), (("reg", "r", "a", (0, 1), (1, 2), -1, 0, False),)),)),
        ((), (("b12", ("a",), (), (("reg", "r", "a", (0, 1), (1, 2), 0, -1, False),)),)),
        ((("b13", ("a",), name("a"), (("a", 10 ** 5000, 0),)),), ()),
    ]),
    (BadNet, [
        "module e1(a) -> (a) { }",
        "module e2(a, b) -> (g, b) { gate g = one(); }",
    ]),
    (Recursive, [
        "module r1() -> () { part u: () = r1(); }",
        "module r2(a) -> () { part u: () = none(); part v: () = r2(a); gate g = one(); }",
        "module r3() -> () { part u: () = r4(); } module r4() -> () { part u: () = r3(); }",
        "module r5() -> () { part u: () = r7(); } module r6() -> () { part u: () = none(); part v: () = r5(); } "
        "module r7() -> () { part u: () = r6(); } module r8() -> () { part u: () = r7(); }",
    ]),
)


def deck_of(*ways):
    """The sound deck with several things added, which are texts or decks."""
    decks = [parse_deck(SOUND)] + [parse_deck(way) if isinstance(way, str) else way for way in ways]
    return (sum((deck[0] for deck in decks), ()), sum((deck[1] for deck in decks), ()))


class Checking(unittest.TestCase):
    def check(self, error, deck):
        with self.assertRaises(error) as caught:
            check_deck(deck)
        self.assertIs(type(caught.exception), error)

    def test_sound_decks(self):
        for text in ("", SOUND, "cell a(a) = a { pin a 0..2; }", "module m(i) -> () { }",
                     "module m() -> (m) { gate m = c(); } cell c() = 0 { }",
                     # A part may have the name of a net, and a net that of a cell or a module.
                     SOUND + "module m(top) -> (inv) { part inv: (inv, u) = leaf(top, top); gate v = inv(u); }",
                     SOUND + "module m() -> (a, c) { part u: (a, b) = leaf(b, c); part v: (c, d) = leaf(d, a); }",
                     f"module m() -> (r) {{ reg r = r {REG} }}"):
            self.assertIsNone(check_deck(parse_deck(text)))

    def test_each_rule_alone(self):
        for error, ways in BROKEN:
            for way in ways:
                with self.subTest(way):
                    self.check(error, deck_of(way))

    def test_each_pair_of_rules(self):
        for (error, ways), (_, later) in itertools.combinations(BROKEN, 2):
            for first, second in itertools.product(ways, later):
                with self.subTest((first, second)):
                    self.check(error, deck_of(first, second))
                    self.check(error, deck_of(second, first))

    def test_all_rules_at_once(self):
        for at, (error, _) in enumerate(BROKEN):
            self.check(error, deck_of(*[ways[-1] for _, ways in BROKEN[at:][::-1]]))

    def test_several_rules_broken_in_one_module(self):
        self.check(NameClash, parse_deck("module m(a, a) -> (a) { gate g = x(b); part u: () = m(); }"))
        self.check(UnknownName, parse_deck("module m(a) -> (a) { gate g = x(b); part u: () = m(); }"))
        self.check(WrongCount, parse_deck("module m(a) -> (a) { part u: () = m(); }"))
        self.check(BadNet, parse_deck("module m(a) -> (a) { part u: (b) = m(b); }"))
        self.check(Recursive, parse_deck("module m(a) -> (b) { part u: (b) = m(b); }"))

    def test_pins(self):
        for many in range(8):
            pins = tuple(f"p{k}" for k in range(many))
            for order in (pins, pins[::-1], pins[1:] + pins[:1]):
                deck = ((("c", pins, const(True), tuple((pin, 1, 3) for pin in order)),), ())
                if many > 6:
                    self.check(WrongCount, deck)
                else:
                    self.assertIsNone(check_deck(deck))

    def test_a_long_chain_of_modules(self):
        modules = [f"module m{k}() -> () {{ part u: () = m{k + 1}(); }}" for k in range(2000)]
        with few_calls():
            self.assertIsNone(check_deck(parse_deck("\n".join(modules + ["module m2000() -> () { }"]))))
            self.check(Recursive, parse_deck("\n".join(modules + ["module m2000() -> () { part u: () = m0(); }"])))

    def test_the_deck_is_not_changed(self):
        deck = deck_of()
        kept = copy.deepcopy(deck)
        check_deck(deck)
        flatten(deck, "top")
        module_size(deck, "top")
        self.assertEqual(deck, kept)


class Sizes(unittest.TestCase):
    def test_small_ones(self):
        deck = deck_of()
        self.assertEqual([module_size(deck, one) for one in ("none", "leaf", "top")], [0, 2, 9])

    def test_unknown_names(self):
        for text in ("x", "inv", "", "u", "one"):
            self.assertRaises(UnknownName, module_size, deck_of(), text)

    def test_many_digits(self):
        texts = ["module m0() -> (g) { gate g = c(); }", "cell c() = 1 { }"]
        for k in range(1, 500):
            parts = "".join(f"part u{j}: (n{j}) = m{k - 1}(); " for j in range(7))
            texts.append(f"module m{k}() -> (n3) {{ {parts} }}")
        size = 1
        wanted = [1]
        for _ in range(1, 500):
            size = 7 + 7 * size
            wanted.append(size)
        self.assertGreater(len(str(size)), 400)
        for order in (texts, texts[::-1]):
            deck = parse_deck("\n".join(order))
            with few_calls():
                self.assertEqual([module_size(deck, f"m{k}") for k in (0, 1, 250, 499)],
                                 [wanted[k] for k in (0, 1, 250, 499)])
                self.assertRaises(TooLarge, flatten, deck, "m499")
                self.assertRaises(TooLarge, flatten, deck, "m3")

    def test_a_size_of_thousands_of_digits(self):
        rows = [("m0", (), (), ())]
        for k in range(1, 200):
            rows.append((f"m{k}", (), (), tuple(("part", f"u{j}", (), f"m{k - 1}", ()) for j in range(k + 9))))
        modules = tuple(rows)
        for _ in range(18):
            top = modules[-1][0]
            modules += tuple((f"{top}x{k}", (), (), tuple(
                ("part", f"u{j}", (), f"{top}x{k - 1}" if k else top, ()) for j in range(99))) for k in range(150))
        self.assertGreater(module_size(((), modules), modules[-1][0]), 10 ** 5000)
        self.assertRaises(TooLarge, flatten, ((), modules), modules[-1][0])


def reference(deck, top):
    """The circuit of a module, by another way: all names inside are kept, then followed."""
    cells = {cell[0]: cell for cell in deck[0]}
    modules = {module[0]: module for module in deck[1]}
    gates, regs, same = [], [], {}

    def expand(module, prefix):
        for item in modules[module][3]:
            if item[0] == "gate":
                gates.append((prefix + item[1], item[2], [prefix + net for net in item[3]]))
            elif item[0] == "reg":
                regs.append((prefix + item[1], prefix + item[2], *item[3:]))
            else:
                inner = f"{prefix}{item[1]}/"
                same.update((inner + port, prefix + net) for port, net in zip(modules[item[3]][1], item[4]))
                same.update((prefix + net, inner + port) for net, port in zip(item[2], modules[item[3]][2]))
                expand(item[3], inner)

    def follow(net):
        while net in same:
            net = same[net]
        return net

    def made(gate):
        _, pins, tree, rows = cells[gate[1]]
        pairs = {pin: pair for pin, *pair in rows}
        table = tuple(plain_value(tree, {pin: row >> j & 1 for j, pin in enumerate(pins)})
                      for row in range(2 ** len(pins)))
        return (gate[0], table, tuple(follow(net) for net in gate[2]), tuple(tuple(pairs[pin]) for pin in pins))

    expand(top, "")
    return (modules[top][1], tuple(made(gate) for gate in gates),
            tuple((one[0], follow(one[1]), *one[2:]) for one in regs),
            tuple((port, follow(port)) for port in modules[top][2]))


def plain_value(tree, values):
    kind, *parts = tree
    if kind == "name":
        return bool(values[parts[0]])
    if kind == "const":
        return parts[0]
    first, *rest = [plain_value(part, values) for part in parts]
    if kind == "not":
        return not first
    return {"and": first and rest[0], "or": first or rest[0], "xor": first != rest[0]}[kind]


CELLS = """
cell inv(a) = !a { pin a 1..3; }
cell mux(c, a, b) = c & a | !c & b { pin b 2..6; pin c 3..9; pin a 1..4; }
cell odd(a, b) = a ^ b { pin b 5..7; pin a 0..2; }
cell zero() = 0 { }
"""
PINS = {"inv": 1, "mux": 3, "odd": 2, "zero": 0}


def random_module(source, k, ends, kinds):
    """The text of a module with parts of earlier ones, its numbers of inputs and of outputs."""
    inputs = [f"i{j}" for j in range(source.randrange(3))]
    shapes = [source.choice(kinds) for _ in range(source.randrange(1, 5))]
    parts = [source.randrange(k) if shape == "part" else None for shape in shapes]
    nets = list(inputs)
    for at, (shape, inner) in enumerate(zip(shapes, parts)):
        nets += [f"n{at}x{j}" for j in range(ends[inner][1])] if shape == "part" else [f"n{at}"]
    items = []
    for at, (shape, inner) in enumerate(zip(shapes, parts)):
        def some(many):
            return ", ".join(source.choice(nets) for _ in range(many))

        if shape == "part":
            outs = ", ".join(f"n{at}x{j}" for j in range(ends[inner][1]))
            if not nets and ends[inner][0]:
                return random_module(source, k, ends, kinds)
            items.append(f"part n{at}: ({outs}) = m{inner}({some(ends[inner][0])});")
        elif shape == "reg":
            items.append(f"reg n{at} = {some(1)} edge 0..1 out {at}..{at + 2} setup 1 hold 1 start {at % 2};")
        else:
            items.append(f"gate n{at} = {shape}({some(PINS[shape])});")
    inside = [net for net in nets if net not in inputs]
    outputs = source.sample(inside, min(len(inside), source.randrange(4)))
    text = f"module m{k}({', '.join(inputs)}) -> ({', '.join(outputs)}) {{ {' '.join(items)} }}"
    return text, (len(inputs), len(outputs))


class Flattening(unittest.TestCase):
    def test_modules_inside_modules(self):
        self.assertEqual(flatten(deck_of(), "top"), (
            ("i", "j"),
            (("u/p", (False, False, False, True), ("i", "u/q"), ((1, 4), (2, 6))),
             ("v/p", (False, False, False, True), ("u/q", "v/q"), ((1, 4), (2, 6))),
             ("g", (True, False), ("j",), ((1, 3),)),
             ("v", (True,), (), ())),
            (("u/q", "g", (0, 1), (1, 2), 0, 0, True), ("v/q", "v", (0, 1), (1, 2), 0, 0, True)),
            (("o", "v/p"), ("m", "u/p"), ("g", "g"))))
        self.assertEqual(flatten(deck_of(), "none"), ((), (), (), ()))

    def test_several_levels(self):
        text = """
        module c(x) -> (y) { part p: (y) = b(x); }
        module a(x) -> (r) { gate n = inv(x); reg r = n edge 1..2 out 3..4 setup 5 hold 2 start 1; }
        module d(x) -> (z, w) { gate w = inv(z); part s: (y) = c(w); part t: (z) = c(y); }
        module b(x) -> (k) { part q: (k) = a(x); }
        """
        r = ((1, 2), (3, 4), 5, 2, True)
        self.assertEqual(flatten(parse_deck(CELLS + text), "d"), (
            ("x",),
            (("w", (True, False), ("t/p/q/r",), ((1, 3),)),
             ("s/p/q/n", (True, False), ("w",), ((1, 3),)),
             ("t/p/q/n", (True, False), ("s/p/q/r",), ((1, 3),))),
            (("s/p/q/r", "s/p/q/n", *r), ("t/p/q/r", "t/p/q/n", *r)),
            (("z", "t/p/q/r"), ("w", "w"))))

    def test_outputs_of_parts_are_used_everywhere(self):
        text = """
        module m(x) -> (y, z) { gate y = inv(x); gate z = zero(); }
        module top(i) -> (y, b) {
          gate g = odd(a, y);
          reg r = b edge 0..0 out 0..1 setup 0 hold 0 start 0;
          part v: (x, y) = m(b);
          part u: (a, b) = m(r);
        }
        """
        found = flatten(parse_deck(CELLS + text), "top")
        self.assertEqual([gate[0] for gate in found[1]], ["g", "v/y", "v/z", "u/y", "u/z"])
        self.assertEqual([gate[2] for gate in found[1]], [("u/y", "v/z"), ("u/z",), (), ("r",), ()])
        self.assertEqual((found[2][0][:2], found[3]), (("r", "u/z"), (("y", "v/z"), ("b", "u/z"))))

    def test_looped(self):
        text = CELLS + """
        module m(x) -> (y) { gate y = inv(x); }
        module ring(i) -> (b) { part u: (a) = m(b); part v: (b) = m(a); gate c = inv(i); }
        module around() -> (g) { part s: (o) = m(g); gate g = inv(o); }
        """
        for top, names in (("ring", ("u/y", "v/y")), ("around", ("s/y", "g"))):
            with self.assertRaises(Looped) as caught:
                flatten(parse_deck(text), top)
            self.assertIn(caught.exception.names, (names, names[::-1]))
        # Only the module that is asked for is looked at.
        self.assertEqual(flatten(parse_deck(text), "m"), (
            ("x",), (("y", (True, False), ("x",), ((1, 3),)),), (), (("y", "y"),)))

    def chain_text(self, many):
        gates = " ".join(f"gate g{k} = inv({f'g{k - 1}' if k else 'x'});" for k in range(many))
        return f"module chain{many}(x) -> (g{many - 1}) {{ {gates} }}"

    def test_too_deep(self):
        text = CELLS + self.chain_text(50) + self.chain_text(51) + """
        module good(x) -> (b) { part u: (a) = chain50(x); part v: (b) = chain50(a); }
        module bad(x) -> (b) { part u: (a) = chain50(x); part v: (b) = chain51(a); }
        module both(x) -> (b) { part u: (a) = bad(x); gate b = odd(a, b); }
        """
        self.assertEqual(len(flatten(parse_deck(text), "good")[1]), 100)
        self.assertRaises(TooDeep, flatten, parse_deck(text), "bad")
        self.assertRaises(Looped, flatten, parse_deck(text), "both")

    def test_sizes_of_500_and_501(self):
        text = CELLS + "module ten() -> () { " + " ".join(f"gate g{k} = zero();" for k in range(9)) + " }"
        for gates, error in ((0, None), (1, TooLarge), (2, TooLarge)):
            parts = " ".join(f"part u{k}: () = ten();" for k in range(50))
            extra = " ".join(f"gate h{k} = zero();" for k in range(gates))
            deck = parse_deck(f"{text} module top() -> () {{ {parts} {extra} }}")
            self.assertEqual(module_size(deck, "top"), 500 + gates)
            if error is None:
                self.assertEqual(len(flatten(deck, "top")[1]), 450)
            else:
                self.assertRaises(error, flatten, deck, "top")

    def test_depths_of_30_and_31(self):
        text = CELLS + "module m1(x) -> (g) { gate g = inv(x); } " + " ".join(
            f"module m{k}(x) -> (y) {{ part e: () = empty(); part u: (y) = m{k - 1}(x); }}" for k in range(31, 1, -1))
        deck = parse_deck(text + " module empty() -> () { }")
        with few_calls():
            self.assertEqual(flatten(deck, "m30")[1], (("u/" * 29 + "g", (True, False), ("x",), ((1, 3),)),))
            self.assertRaises(TooLarge, flatten, deck, "m31")

    def test_a_deep_module_that_is_not_asked_for(self):
        text = "module m0() -> () { } " + " ".join(
            f"module m{k}() -> () {{ part u: () = m{k - 1}(); }}" for k in range(1, 1500))
        with few_calls():
            self.assertEqual(flatten(parse_deck(text), "m7"), ((), (), (), ()))
            self.assertRaises(TooLarge, flatten, parse_deck(text), "m1499")

    def test_which_error_comes_first(self):
        loop = "module loop() -> (a) { gate a = inv(b); gate b = inv(a); }"
        large = "module large() -> () { " + " ".join(f"gate g{k} = inv(g{k});" for k in range(501)) + " }"
        deep = self.chain_text(101)
        rest = (loop, large, deep)
        for top, error in (("nowhere", UnknownName), ("inv", UnknownName), ("large", TooLarge), ("loop", Looped),
                           ("chain101", TooDeep)):
            self.assertRaises(error, flatten, deck_of(*rest), top)
            for rule, ways in BROKEN:
                with self.assertRaises(rule) as caught:
                    flatten(deck_of(*rest, ways[0]), top)
                self.assertIs(type(caught.exception), rule)

    def test_what_is_broken_elsewhere_counts(self):
        for error, ways in BROKEN:
            for way in ways:
                self.assertRaises(error, flatten, deck_of(way), "none")

    def test_random_decks(self):
        source = random.Random(7)
        looped = flat = 0
        for _ in range(400):
            texts, ends = [], []
            kinds = ["inv", "mux", "odd", "zero", "reg", "part", "part"]
            for k in range(source.randrange(1, 6)):
                text, pair = random_module(source, k, ends, kinds[:-2] if k == 0 else kinds)
                texts.append(text)
                ends.append(pair)
            top = f"m{len(texts) - 1}"
            source.shuffle(texts)
            deck = parse_deck("\n".join(texts) + CELLS)
            check_deck(deck)
            wanted = reference(deck, top)
            try:
                check_circuit(wanted)
            except Looped:
                looped += 1
                self.assertRaises(Looped, flatten, deck, top)
                continue
            flat += 1
            self.assertEqual(flatten(deck, top), wanted)
            self.assertEqual(len(gate_order(wanted)), len(wanted[1]))
            for vector in vectors(wanted)[:4]:
                settle(wanted, vector)
        self.assertGreater(min(looped, flat), 50)


if __name__ == "__main__":
    unittest.main()
