"""The examples of the interface, as they stand in the document, and those of README.md."""

import os
import unittest

from tests.helpers import failures

EXAMPLES = {
    "tokens": '''
>>> from signoff.tokens import tokenize
>>> tokenize("pin a 3..6; # slow")
['pin', 'a', '3', '..', '6', ';']
''',
    "parser, expressions": '''
>>> from signoff.parser import parse_expression
>>> parse_expression("!a & b | 0")
('or', ('and', ('not', ('name', 'a')), ('name', 'b')), ('const', False))
''',
    "parser, decks": '''
>>> from signoff.parser import parse_deck
>>> parse_deck("cell inv(a) = !a { pin a 1..3; }")
((('inv', ('a',), ('not', ('name', 'a')), (('a', 1, 3),)),), ())
''',
}


class Examples(unittest.TestCase):
    def test_all(self):
        for title, text in EXAMPLES.items():
            with self.subTest(title):
                self.assertEqual(failures(text), (text.count(">>>"), 0))

    def test_readme(self):
        root = os.path.dirname(os.path.dirname(os.path.abspath(__file__)))
        with open(os.path.join(root, "README.md"), encoding="utf-8") as handle:
            text = handle.read()
        self.assertEqual(failures(text), (text.count(">>>"), 0))


if __name__ == "__main__":
    unittest.main()
