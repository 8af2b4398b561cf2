"""Point 1.4: the height of an expression and its names."""

import unittest

from signoff.trees import height, names_in
from tests.helpers import CHAIN, chain, const, few_calls, name

A, B, C = name("a"), name("b"), name("c")


class Trees(unittest.TestCase):
    def test_height(self):
        self.assertEqual(height(A), 1)
        self.assertEqual(height(const(True)), 1)
        self.assertEqual(height(const(False)), 1)
        self.assertEqual(height(("not", A)), 2)
        for kind in ("and", "xor", "or"):
            self.assertEqual(height((kind, A, const(True))), 2)
            self.assertEqual(height((kind, (kind, A, B), C)), 3)
            self.assertEqual(height((kind, A, (kind, B, C))), 3)
            self.assertEqual(height((kind, ("not", ("not", A)), (kind, B, C))), 4)
            self.assertEqual(height((kind, (kind, B, C), ("not", ("not", A)))), 4)

    def test_height_is_the_greatest_not_the_last(self):
        deep = ("not", ("not", ("not", A)))
        self.assertEqual(height(("and", ("or", deep, B), ("xor", A, ("not", B)))), 6)
        self.assertEqual(height(("and", ("xor", A, ("not", B)), ("or", B, deep))), 6)

    def test_names(self):
        self.assertEqual(names_in(A), ["a"])
        self.assertEqual(names_in(const(True)), [])
        self.assertEqual(names_in(("not", const(False))), [])
        self.assertEqual(names_in(("and", C, ("or", B, A))), ["a", "b", "c"])
        self.assertEqual(names_in(("and", ("xor", C, A), ("or", ("not", A), C))), ["a", "c"])

    def test_names_ascend_by_character_codes(self):
        tree = ("or", ("or", name("b"), name("a_")), ("or", name("a1"), ("or", name("a"), name("aa"))))
        self.assertEqual(names_in(tree), ["a", "a1", "a_", "aa", "b"])

    def test_words_of_operators_may_be_names(self):
        tree = ("and", name("not"), ("or", name("const"), name("name")))
        self.assertEqual(names_in(tree), ["const", "name", "not"])
        self.assertEqual(height(tree), 3)

    def test_long_chains(self):
        right = A
        low = A
        for _ in range(CHAIN - 1):
            right = ("or", B, right)
            low = ("not", low)
        with few_calls():
            self.assertEqual(height(chain("and", CHAIN)), CHAIN)
            self.assertEqual(height(right), CHAIN)
            self.assertEqual(height(low), CHAIN)
            self.assertEqual(names_in(chain("and", CHAIN)), ["a"])
            self.assertEqual(names_in(right), ["a", "b"])
            self.assertEqual(names_in(low), ["a"])


if __name__ == "__main__":
    unittest.main()
