"""The examples of the interface, as they stand in the document, and those of README.md."""

import os
import unittest

from tests.helpers import failures

EXAMPLES = {
    "tokens": '''
>>> from signoff.tokens import tokenize
>>> tokenize("pin a 3..6; # slow")
['pin', 'a', '3', '..', '6', ';']
''',
    "parser, expressions": '''
>>> from signoff.parser import parse_expression
>>> parse_expression("!a & b | 0")
('or', ('and', ('not', ('name', 'a')), ('name', 'b')), ('const', False))
''',
    "parser, decks": '''
>>> from signoff.parser import parse_deck
>>> parse_deck("cell inv(a) = !a { pin a 1..3; }")
((('inv', ('a',), ('not', ('name', 'a')), (('a', 1, 3),)),), ())
''',
    "printer, 1": '''
>>> from signoff.printer import show_expression
>>> show_expression(("and", ("name", "a"), ("and", ("name", "b"), ("const", True))))
'a & (b & 1)'
''',
    "tables, 1": '''
>>> from signoff.tables import table_of
>>> table_of(("and", ("name", "a"), ("not", ("name", "b"))), ("a", "b"))
(False, True, False, False)
''',
    "tables, 2": '''
>>> from signoff.tables import cubes
>>> cubes((False, False, False, True), False)
[(-1, 0), (0, -1)]
''',
    "diagrams, 1": '''
>>> from signoff.diagrams import Diagrams
>>> d = Diagrams()
>>> d.both(d.variable(0), d.negate(d.variable(0)))
0
''',
    "diagrams, 2": '''
>>> from signoff.diagrams import Diagrams
>>> d = Diagrams()
>>> d.least(d.either(d.variable(0), d.variable(2)), 3)
(False, False, True)
''',
}


class Examples(unittest.TestCase):
    def test_all(self):
        for title, text in EXAMPLES.items():
            with self.subTest(title):
                self.assertEqual(failures(text), (text.count(">>>"), 0))

    def test_readme(self):
        root = os.path.dirname(os.path.dirname(os.path.abspath(__file__)))
        with open(os.path.join(root, "README.md"), encoding="utf-8") as handle:
            text = handle.read()
        self.assertEqual(failures(text), (text.count(">>>"), 0))


if __name__ == "__main__":
    unittest.main()
