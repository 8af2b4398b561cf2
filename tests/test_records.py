"""Points 13.1 to 13.4."""

import copy
import random
import unittest

from signoff.clocked import Clocked
from signoff.clockruns import ClockedRun
from signoff.errors import BadArgument, BadRecord, Refused, UnknownName
from signoff.records import cut, glued, read_record, record_of, same_meaning, write_record
from signoff.runs import Run
from signoff.tokens import KEYWORDS
from signoff.waveforms import Waveform
from tests.helpers import accepted_texts, near_text
from tests.makers import INVERTER, nets_of, random_clocked, random_play, reg

CIRCUIT = (("a",), (("n", INVERTER, ("a",), ((1, 3),)),), (reg("q", "n"),), ())
RUN = Run(CIRCUIT, [Waveform(False, [0, 5]), Waveform(True, [])], [[[1]]])
RECORD = (-1, 1, (("u/q", (False, False, True)),))
TEXT = "from -1 to 3\nu/q 2x0 1x1 2x0\np 5x1\nu/q 1x1 4x0\n"


def random_record(source, *, low=None, names=None):
    low = source.choice((0, -3, 5, 10 ** 59, -10 ** 60 + 1)) if low is None else low
    many = source.choice((1, 2, 3, 9, 40))
    if names is None:
        names = [source.choice(("q", "p", "u/q", "reg", "u/out/q", "x1_")) for _ in range(source.randrange(4))]
    rows = []
    for name in names:
        bits = [source.random() < 0.5]
        while len(bits) < many:
            bits.append(bits[-1] != (source.random() < 0.3))
        rows.append((name, tuple(bits)))
    return (low, low + many - 1, tuple(rows))


def plain_bits(record):
    """The list of the triples (name, time, bit) of a record."""
    low, high, rows = record
    return [(name, time, bit) for name, bits in rows for time, bit in zip(range(low, high + 1), bits)]


class RecordOf(unittest.TestCase):
    def test_run(self):
        self.assertEqual(record_of(RUN, ["n", "a"], -1, 2), (-1, 2, (("n", (True, True, False, False)),
                                                                     ("a", (False, True, True, True)))))
        self.assertEqual(record_of(RUN, ["a"], 5, 5), (5, 5, (("a", (False,)),)))
        self.assertEqual(record_of(RUN, [], 5, 7), (5, 7, ()))
        self.assertEqual(record_of(RUN, ["q", "a", "q"], 0, 1),
                         (0, 1, (("q", (True, True)), ("a", (True, True)), ("q", (True, True)))))

    def test_clocked_run(self):
        source = random.Random(1)
        for _ in range(10):
            clocked = random_clocked(source)
            rows, play = random_play(source, clocked, 3)
            run = ClockedRun(clocked, rows, **play)
            nets = nets_of(clocked.circuit())
            record = record_of(run, nets, -7, 50)
            self.assertEqual(record, (-7, 50, tuple(
                (net, tuple(run.value(net, time) for time in range(-7, 51))) for net in nets)))
            self.assertEqual(read_record(write_record(record)), record)

    def test_errors(self):
        clocked = ClockedRun(Clocked(CIRCUIT, 9, [(0, 0)]), [], edges=[[0]], shakes=[[True], [True]], guesses=[[True]],
                             delays=[[[1]]])
        for run in (RUN, clocked):
            for nets in (["x"], ["a", "x"], ["n", "", "a"]):
                self.assertRaises(UnknownName, record_of, run, nets, 0, 4)
                self.assertRaises(UnknownName, record_of, run, nets, 4, 4)
                self.assertRaises(BadArgument, record_of, run, nets, 4, 3)
            self.assertRaises(BadArgument, record_of, run, [], 0, -1)
            self.assertRaises(BadArgument, record_of, run, ["a"], 10 ** 30, -10 ** 30)

    def test_arguments_stay(self):
        nets = ["n", "a"]
        record_of(RUN, nets, 0, 3)
        self.assertEqual(nets, ["n", "a"])


class Writing(unittest.TestCase):
    def test_by_hand(self):
        self.assertEqual(write_record(RECORD), "from -1 to 1\nu/q 2x0 1x1\n")
        self.assertEqual(write_record((5, 5, ())), "from 5 to 5\n")
        self.assertEqual(write_record((0, 3, (("p", (True,) * 4), ("p", (False, True, False, True))))),
                         "from 0 to 3\np 4x1\np 1x0 1x1 1x0 1x1\n")
        self.assertEqual(write_record((-10 ** 59, 10 ** 59, ())), f"from -1{'0' * 59} to 1{'0' * 59}\n")
        self.assertEqual(write_record((1, 100000, (("p", (True,) * 99999 + (False,)),))),
                         "from 1 to 100000\np 99999x1 1x0\n")

    def test_reading_back(self):
        source = random.Random(2)
        for _ in range(500):
            record = random_record(source)
            found = read_record(write_record(record))
            self.assertEqual(found, record)
            self.assertEqual([type(part) for part in found], [int, int, tuple])
            for row in found[2]:
                self.assertEqual([type(part) for part in row], [str, tuple])
                self.assertTrue(all(type(bit) is bool for bit in row[1]))


class Reading(unittest.TestCase):
    def refused(self, *texts):
        for text in texts:
            with self.assertRaises(BadRecord, msg=repr(text[:99])):
                read_record(text)

    def test_good(self):
        self.assertEqual(read_record(TEXT), (-1, 3, (("u/q", (False, False, True, False, False)), ("p", (True,) * 5),
                                                     ("u/q", (True, False, False, False, False)))))
        self.assertEqual(read_record("from 7 to 7\n"), (7, 7, ()))
        self.assertEqual(read_record(f"from -{'9' * 60} to {'9' * 60}\n"), (1 - 10 ** 60, 10 ** 60 - 1, ()))

    def test_lines(self):
        self.refused("", "\n", TEXT[:-1], TEXT + "\n", "\n" + TEXT, "p 5x1\n", "from 0 to 0", "from 0 to 0\n\n",
                     TEXT[TEXT.index("\n") + 1:], TEXT + "p", TEXT + " \n", TEXT + "from -1 to 3\n")
        for k, character in enumerate(TEXT):
            if character == "\n":
                self.refused(TEXT[:k] + TEXT[k + 1:], TEXT[:k] + " " + TEXT[k + 1:], TEXT[:k] + " \n" + TEXT[k + 1:],
                             TEXT[:k] + "\r\n" + TEXT[k + 1:], TEXT[:k] + "\n\n" + TEXT[k + 1:])
        # Without one of its rows a text is another record.
        self.assertEqual(len(read_record("from -1 to 3\np 5x1\n")[2]), 1)

    def test_spaces(self):
        for k, character in enumerate(TEXT):
            if character == " ":
                for other in ("", "  ", "\n", "\t", "_", " \n"):
                    self.refused(TEXT[:k] + other + TEXT[k + 1:])
            self.refused(TEXT[:k] + " " + TEXT[k:])

    def test_first_lines(self):
        for line in ("from 0 to", "from 0", "from", "to 0 from 0", "From 0 to 0", "from 0 To 0", "from 0 to 0 ",
                     "from 0 to 0 to 0",
                     "from 1 to 0", "from 5 to -5", "from 0 until 0", "start 0 to 0", "from 0-0"):
            self.refused(line + "\n", line + "\np 1x0\n")

    def test_integers(self):
        bad = ["", "-", "+1", "01", "-01", "-0", "00", "1_0", "0x1", "1.0", "--1", "1-", "\u0661", "a", "9" * 61,
               "-" + "9" * 61,
               "1" + "0" * 60, "0" * 61, "9" * 5000, "none"]
        self.refused(*[f"from {word} to {'9' * 60}\n" for word in bad],
                     *[f"from -{'9' * 60} to {word}\n" for word in bad])
        self.refused(*[f"from 0 to 0\np {word}x1\n" for word in bad],
                     *[f"from 0 to 1\np 1x0 {word}x1\n" for word in bad])
        self.refused("from 0 to 0\np 0x0 1x1\n", "from 0 to 0\np 1x1 0x0\n", "from 0 to 0\np 2x1 -1x0\n",
                     "from 0 to 0\np 0x1\n",
                     "from 0 to 0\np -1x1\n")

    def test_names(self):
        for name in ("", "/", "u/", "/q", "u//q", "3", "u/3", "_a", "u/_a", "A", "u.q", "u/Q", "\u00e4", "a%", "u-q"):
            self.refused(f"from 0 to 0\n{name} 1x0\n")
        for name in (*KEYWORDS, *[f"u/{word}/d" for word in KEYWORDS], "q", "a/a/a", "x1", "to", "x", "from", "none"):
            self.assertEqual(read_record(f"from 0 to 0\n{name} 1x0\n"), (0, 0, ((name, (False,)),)))

    def test_pieces(self):
        for pieces in ("3x1", "5x1", "2x1 3x0", "1x1 2x0", "4x2", "4x", "x1", "4", "4y1", "4X1", "4x10", "4x1x1",
                       "2x1 2x1", "1x0 3x1 1x0",
                       "4x01", "4x1,", "1x0 1x0 2x1", "2x1 1x0 1x0", "1 x0 3x1", "", "4xTrue", "4x-1", "2x1 2x 0"):
            self.refused(f"from 0 to 3\np {pieces}\n", f"from 0 to 3\nq 4x0\np {pieces}\n",
                         f"from 0 to 3\np {pieces}\nq 4x0\n")
        self.refused("from 0 to 3\np\n", "from 0 to 3\np \n")
        self.assertEqual(read_record("from 0 to 3\np 4x1\n"), (0, 3, (("p", (True,) * 4),)))

    def test_long_rows(self):
        record = (0, 99999, (("p", (True,) * 100000), ("q", (False, True) * 50000)))
        self.assertEqual(read_record(write_record(record)), record)
        self.assertEqual(read_record("from 1 to 100000\np 100000x0\n"), (1, 100000, (("p", (False,) * 100000),)))
        self.refused("from 0 to 100000\np 100001x0\n", "from 0 to 100000\np 100000x0 1x1\n",
                     f"from 1 to {'9' * 60}\np {'9' * 60}x0\n", f"from 0 to 3\np 4x0\nq {'9' * 30}x0\n",
                     "from 0 to 100000\n" + write_record((0, 100000,
                                                          (("p", (False, True) * 50000 + (False,)),
                                                           ))).split("\n")[1] + "\n")
        # Without rows the times do not matter.
        self.assertEqual(read_record("from 0 to 100000\n"), (0, 100000, ()))

    def test_every_other_text_that_is_near(self):
        # A text that is accepted is the written form of what was read.
        source = random.Random(3)
        texts = [near_text(source, write_record(random_record(source)), "01-/ \nx_29q") for _ in range(6000)]
        self.assertGreater(accepted_texts(texts, read_record, write_record, BadRecord), 300)


class SameMeaning(unittest.TestCase):
    def test_by_hand(self):
        first = (0, 3, (("p", (True, True, False, False)), ("q", (True,) * 4)))
        for second, wanted in (
                (first, True), ((0, 3, ()), True), ((4, 5, (("p", (True, True)),)), True),
            ((-2, -1, (("p", (False, False)),)), True),
                ((3, 4, (("p", (True, True)),)), False), ((3, 4, (("p", (False, True)),)), True),
                ((-1, 0, (("p", (False, True)),)), True), ((-1, 0, (("p", (True, False)),)), False),
                ((1, 2, (("p", (True, False)), ("r", (False, False)))), True), ((1, 2, (("q", (True, False)),)), False),
                ((-9, 9, (("r", (True,) * 19),)), True)):
            self.assertIs(same_meaning(first, second), wanted)
            self.assertIs(same_meaning(second, first), wanted)

    def test_equal_names(self):
        one, other = ("p", (True, False)), ("p", (False, False))
        self.assertIs(same_meaning((0, 1, (one, other)), (0, 1, ())), True)
        self.assertIs(same_meaning((0, 1, (one, other)), (1, 1, (("p", (False,)),))), True)
        for rows in ((one, other), (other, one), (one, one, other)):
            self.assertIs(same_meaning((0, 1, rows), (0, 1, (one,))), False)
            self.assertIs(same_meaning((0, 1, (one,)), (0, 1, rows)), False)
            # Not even the same as itself.
            self.assertIs(same_meaning((0, 1, rows), (0, 1, rows)), False)
        self.assertIs(same_meaning((0, 1, (one, one)), (0, 1, (one, one, one))), True)

    def test_random_records(self):
        source = random.Random(4)
        counts = [0, 0]
        for _ in range(2000):
            pair = [random_record(source, low=source.randrange(-6, 7)) for _ in "ab"]
            pair = [(low, high, tuple((name, tuple((time % 3 == 0) != (source.random() < 0.15)
                                                   for time in range(low, high + 1)))
                                      for name, _ in rows)) for low, high, rows in pair]
            known = plain_bits(pair[1])
            wanted = not any(name == other and time == moment and bit != value for name, time,
                             bit in plain_bits(pair[0])
                             for other, moment, value in known)
            counts[wanted] += 1
            self.assertIs(same_meaning(*pair), wanted)
            self.assertIs(same_meaning(*pair[::-1]), wanted)
        self.assertGreater(min(counts), 100)

    def test_runs(self):
        early, late = record_of(RUN, ["a", "n"], -5, 3), record_of(RUN, ["n", "q"], 1, 20)
        self.assertIs(same_meaning(early, late), True)
        other = Run(CIRCUIT, [Waveform(False, [0, 5]), Waveform(True, [])], [[[2]]])
        self.assertIs(same_meaning(record_of(other, ["n"], -5, 3), late), False)


class CutAndGlued(unittest.TestCase):
    def test_cut(self):
        record = (-1, 2, (("p", (True, False, False, True)), ("q", (False,) * 4), ("p", (True,) * 4)))
        self.assertEqual(cut(record, 0, 2), (0, 2, (("p", (False, False, True)), ("q", (False,) * 3),
                                                    ("p", (True,) * 3))))
        self.assertEqual(cut(record, -1, -1), (-1, -1, (("p", (True,)), ("q", (False,)), ("p", (True,)))))
        self.assertEqual(cut(record, -1, 2), record)
        self.assertEqual(cut((3, 9, ()), 4, 5), (4, 5, ()))

    def test_cut_errors(self):
        for low, high in ((1, 0), (2, -1), (-2, 0), (0, 3), (-2, 3), (3, 3), (-2, -2), (-9, -5), (5, 9), (9, 5), (3, 2),
                          (-1, -2)):
            self.assertRaises(BadArgument, cut, (-1, 2, (("p", (True,) * 4),)), low, high)
            self.assertRaises(BadArgument, cut, (-1, 2, ()), low, high)

    def test_glued(self):
        first = (-1, 0, (("p", (True, False)), ("q", (True, True)), ("p", (False, False))))
        second = (1, 1, (("p", (True,)), ("q", (False,)), ("p", (False,))))
        self.assertEqual(glued(first, second), (-1, 1, (("p", (True, False, True)), ("q", (True, True, False)),
                                                        ("p", (False,) * 3))))
        self.assertEqual(glued((0, 1, ()), (2, 5, ())), (0, 5, ()))

    def test_glued_errors(self):
        first = (0, 1, (("p", (True, False)), ("q", (True, True))))
        rows = (("p", (True,)), ("q", (True,)))
        glued(first, (2, 2, rows))
        for second in ((1, 1, rows), (3, 3, rows), (0, 0, rows), (-1, -1, rows), (2, 2, rows[::-1]), (2, 2, rows[:1]),
                       (2, 2, ()),
                       (2, 2, rows + rows[:1]), (2, 2, rows[:1] * 2), (2, 2, (("p", (True,)), ("r", (True,)))),
                       (0, 1, first[2])):
            self.assertRaises(Refused, glued, first, second)
        self.assertRaises(Refused, glued, (2, 2, rows), first)
        self.assertRaises(Refused, glued, (0, 1, ()), (3, 4, ()))

    def test_cut_and_glued_again(self):
        source = random.Random(5)
        for _ in range(200):
            record = random_record(source)
            low, high, _ = record
            if low == high:
                continue
            middle = source.randrange(low, high)
            parts = [cut(record, low, middle), cut(record, middle + 1, high)]
            self.assertEqual(glued(*parts), record)
            for part in parts:
                self.assertEqual(read_record(write_record(part)), part)
                names = [name for name, _ in record[2]]
                if len(set(names)) == len(names):
                    self.assertIs(same_meaning(part, record), True)

    def test_arguments_stay(self):
        first, second = (0, 1, (("p", (True, False)),)), (2, 2, (("p", (True,)),))
        kept = copy.deepcopy((first, second))
        cut(first, 0, 0), glued(first, second), same_meaning(first, second), write_record(first)
        self.assertEqual((first, second), kept)


if __name__ == "__main__":
    unittest.main()
