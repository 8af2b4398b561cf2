"""Points 10.3 and 10.4."""

import random
import unittest

from signoff.errors import BadReport
from signoff.flow import is_clean_report
from signoff.reports import read_report, write_report
from signoff.tokens import KEYWORDS
from tests.helpers import accepted_texts, near_text

REPORT = ("top", 9, (("u/q", 1, -2, (11, (False, True))), ("p", None, None, None)))
TEXT = """module top period 9
reg u/q setup 1 hold -2 loose at 11 for 01
reg p setup none hold none ok
not clean
"""
CLEAN = "module top period 9\nreg p setup 3 hold 0 ok\nclean\n"


def random_integer(source):
    kind = source.randrange(5)
    if kind == 0:
        return 0
    if kind == 1:
        return source.choice((10 ** 60 - 1, 1 - 10 ** 60, 10 ** 59, -10 ** 59))
    return source.randrange(-20, 20) if kind < 4 else source.randrange(-10 ** 60 + 1, 10 ** 60)


def random_report(source):
    pieces = ["a", "q", "x1", "b_", "regs", "period", "none", "ok", "clean", "module_", "z" * 90]
    names = []
    while len(names) < source.randrange(5):
        name = "/".join(source.choice(pieces) for _ in range(source.randrange(1, 4)))
        if name not in names:
            names.append(name)
    length = source.choice((0, 1, 2, 70))
    rows = []
    for name in names:
        violation = (random_integer(source), tuple(source.random() < 0.5 for _ in range(length)))
        rows.append((name, *(random_integer(source) if source.random() < 0.7 else None for _ in "sh"),
                     violation if source.random() < 0.4 else None))
    return (source.choice(pieces), abs(random_integer(source)) or 1, tuple(rows))


class Writing(unittest.TestCase):
    def test_by_hand(self):
        self.assertEqual(write_report(REPORT), TEXT)
        self.assertEqual(write_report(("m", 1, ())), "module m period 1\nclean\n")
        self.assertEqual(write_report(("m", 10 ** 59, (("q", 0, -1, None),))),
                         f"module m period 1{'0' * 59}\nreg q setup 0 hold -1 ok\nclean\n")
        self.assertEqual(write_report(("m", 1, (("q", None, 5, (-3, ())),))),
                         "module m period 1\nreg q setup none hold 5 loose at -3 for -\nnot clean\n")

    def test_reading_back(self):
        source = random.Random(1)
        kinds = [0, 0]
        for _ in range(500):
            report = random_report(source)
            kinds[is_clean_report(report)] += 1
            found = read_report(write_report(report))
            self.assertEqual(found, report)
            self.assertEqual([type(part) for part in found], [str, int, tuple])
            for row in found[2]:
                self.assertIs(type(row), tuple)
                if row[3] is not None:
                    self.assertIs(type(row[3][1]), tuple)
                    self.assertTrue(all(type(bit) is bool for bit in row[3][1]))
        self.assertGreater(min(kinds), 50)


class Reading(unittest.TestCase):
    def refused(self, *texts):
        for text in texts:
            with self.assertRaises(BadReport, msg=repr(text)):
                read_report(text)

    def replaced(self, old, *news):
        self.assertIn(old, TEXT)
        self.refused(*[TEXT.replace(old, new) for new in news])

    def test_good(self):
        self.assertEqual(read_report(TEXT), REPORT)
        self.assertEqual(read_report(CLEAN), ("top", 9, (("p", 3, 0, None),)))
        self.assertEqual(read_report("module clean period 1\nclean\n"), ("clean", 1, ()))

    def test_lines(self):
        lines = TEXT.split("\n")[:-1]
        for k in (0, 3):
            self.refused("".join(line + "\n" for line in lines[:k] + lines[k + 1:]))
        self.refused("".join(line + "\n" for line in lines[:1] + lines[2:]))
        for k in range(5):
            for line in ("", " ", "clean", "not clean", "reg p setup 1 hold 1 ok", "module top period 9"):
                self.refused("".join(one + "\n" for one in lines[:k] + [line] + lines[k:]))
        self.refused("", "\n", "clean\n", "module top period 9\n", "\n\n", TEXT[:-1], TEXT + "\n", "\n" + TEXT,
                     TEXT + " ",
                     CLEAN[:-1], "module m period 1\n\nclean\n", "module m period 1\nclean", " \n" + TEXT)
        for k, character in enumerate(TEXT):
            if character == "\n":
                self.refused(TEXT[:k] + TEXT[k + 1:], TEXT[:k] + " " + TEXT[k + 1:], TEXT[:k] + " \n" + TEXT[k + 1:],
                             TEXT[:k] + "\r\n" + TEXT[k + 1:])

    def test_spaces(self):
        for k, character in enumerate(TEXT):
            if character == " ":
                for other in ("", "  ", "\n", "\t", "_", " \n"):
                    self.refused(TEXT[:k] + other + TEXT[k + 1:])
            self.refused(TEXT[:k] + " " + TEXT[k:])

    def test_other_words(self):
        for word in ("module", "period", "reg", "setup", "hold", "loose", "at", "for", "ok", "not"):
            self.assertIn(word, TEXT)
            for at in range(TEXT.count(word)):
                parts = TEXT.split(word)
                for other in ("", "x", word + "s", word.upper(), word[:-1]):
                    self.refused(word.join(parts[:at + 1]) + other + word.join(parts[at + 1:]))
        self.replaced("none", "None", "null", "", "nones", "-none")
        self.replaced("ok", "ok ok", "okay", "loose", "loose at 3 for", "loose at 3", "ok at 3 for 01",
                      "loose at none for 01")
        self.replaced("loose at 11 for 01", "loose at 11 for 01 ok", "ok loose at 11 for 01", "loose for 01 at 11")

    def test_names_of_modules(self):
        for name in (*KEYWORDS, "", "u/q", "3", "3a", "_a", "A", "a.b", "a-b", "a%", "\u00e4", "a\u00e4", "0", "a/",
                     "top "):
            self.refused(f"module {name} period 9\nclean\n")
        for name in ("a", "a_", "regs", "none", "x9", "period", "at", "for", "ok", "clean", "loose", "not"):
            self.assertEqual(read_report(f"module {name} period 9\nclean\n"), (name, 9, ()))

    def test_names_of_registers(self):
        for name in (*KEYWORDS, "", "/", "u/", "/q", "u//q", "3", "u/3", "_a", "u/_a", "A", "u/out", "reg/q", "u.q",
                     "u/q/",
                     "u/Q", "\u00e4"):
            self.refused(f"module m period 9\nreg {name} setup 1 hold 1 ok\nclean\n")
        for name in ("q", "u/q", "u/v/w/q", "a/a", "none/ok", "x9/y_"):
            self.assertEqual(read_report(f"module m period 9\nreg {name} setup 1 hold 1 ok\nclean\n")[2][0][0], name)

    def test_equal_names(self):
        self.replaced("reg p", "reg u/q")
        row = "reg {} setup 1 hold 1 ok\n"
        self.refused("module m period 1\n" + row.format("a") + row.format("b") + row.format("a") + "clean\n")
        # The name of the module may occur again.
        read_report("module a period 1\n" + row.format("a") + row.format("a/a") + "clean\n")

    def test_integers(self):
        bad = ["", "-", "+1", "01", "-01", "-0", "00", "1_0", "0x1", "1.0", "1e3", "--1", "1-", "\u0661", "\u00b2", "a",
               "9" * 61, "-" + "9" * 61, "1" + "0" * 60, "0" * 61, "9" * 5000, "None"]
        good = ["0", "1", "-1", "9" * 60, "-" + "9" * 60, "1" + "0" * 59]
        for text in ("module m period 1\nreg q setup {} hold 1 ok\nclean\n",
                     "module m period 1\nreg q setup 1 hold {} ok\nclean\n",
                     "module m period 1\nreg q setup 1 hold 1 loose at {} for 1\nnot clean\n"):
            self.refused(*[text.replace("{}", word) for word in bad])
            for word in good:
                self.assertEqual(write_report(read_report(text.replace("{}", word))), text.replace("{}", word))
        self.refused("module m period 1\nreg q setup 1 hold 1 loose at none for 1\nnot clean\n")
        self.refused(*[f"module m period {word}\nclean\n" for word in bad + ["0", "-1", "-" + "9" * 60, "none"]])
        self.assertEqual(read_report(f"module m period {'9' * 60}\nclean\n")[1], 10 ** 60 - 1)

    def test_vectors(self):
        for word in ("", "2", "0a", "01-", "-0", "--", "0 1", "True", "o1", "\u0661"):
            self.replaced("for 01", "for " + word)
        text = "module m period 1\nreg a setup 1 hold 1 loose at 1 for {}\nreg b setup 1 hold 1 ok\n" \
               "reg c setup 1 hold 1 loose at 1 for {}\nnot clean\n"
        for first, second, is_good in (("01", "10", True), ("-", "-", True), ("0", "01", False), ("-", "0", False),
                                       ("01", "-", False), ("1" * 99, "0" * 99, True), ("1" * 99, "0" * 98, False)):
            if is_good:
                self.assertEqual(write_report(read_report(text.format(first, second))), text.format(first, second))
            else:
                self.refused(text.format(first, second))

    def test_last_lines(self):
        self.replaced("not clean", "clean", "not", "not  clean", "notclean", "Not clean", "unclean", "not clean.", "")
        self.refused(CLEAN.replace("\nclean", "\nnot clean"), CLEAN.replace("\nclean", "\nok"), CLEAN + "clean\n",
                     "module m period 1\nnot clean\n")

    def test_every_other_text_that_is_near(self):
        # A text that is accepted is the written form of what was read.
        source = random.Random(2)
        texts = [near_text(source, write_report(random_report(source)), "01-/ \nanx_9") for _ in range(6000)]
        self.assertGreater(accepted_texts(texts, read_report, write_report, BadReport), 500)


if __name__ == "__main__":
    unittest.main()
