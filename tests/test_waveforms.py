"""Points 5.1 and 5.2, and the ascending lists behind them."""

import itertools
import random
import unittest

from signoff.ascending import count_until, is_ascending
from signoff.errors import BadArgument
from signoff.waveforms import Waveform, holds, in_window

PLACES = (-3, -2, 0, 1, 4)
TIMES = range(-6, 8)
FAR = 10 ** 30


def all_waveforms():
    """Pairs of a waveform and its values at all times around."""
    for start in (False, True):
        for many in range(len(PLACES) + 1):
            for changes in itertools.combinations(PLACES, many):
                yield Waveform(start, list(changes)), [plain_value(start, changes, time) for time in TIMES]


def plain_value(start, changes, time):
    value = start
    for change in changes:
        if change <= time:
            value = not value
    return value


def values_of(waveform):
    return [waveform.value_at(time) for time in TIMES]


def plain_changes(values):
    return [time for time, before, after in zip(TIMES[1:], values, values[1:]) if before != after]


class Values(unittest.TestCase):
    def check(self, waveform, values):
        """Whether a waveform has these values, and changes only where they do."""
        self.assertIs(type(waveform), Waveform)
        self.assertEqual(values_of(waveform), values)
        self.assertEqual(waveform.changes(), plain_changes(values))
        self.assertIs(waveform.start, values[0])
        self.assertEqual([waveform.value_at(-FAR), waveform.value_at(FAR)], [values[0], values[-1]])

    def test_value_at(self):
        for waveform, values in all_waveforms():
            self.check(waveform, values)
            for time in TIMES:
                self.assertIs(type(waveform.value_at(time)), bool)

    def test_by_hand(self):
        waveform = Waveform(False, [-5, 3, 10 ** 20])
        self.assertEqual([waveform.value_at(time) for time in (-6, -5, 2, 3, 10 ** 20 - 1, 10 ** 20, FAR)],
                         [False, True, True, False, False, True, True])
        self.assertEqual((waveform.start, waveform.changes()), (False, [-5, 3, 10 ** 20]))
        self.assertEqual((Waveform(True, []).start, Waveform(True, []).changes()), (True, []))

    def test_lists_that_are_not_ascending(self):
        for changes in ([0, 0], [1, 0], [-1, -2], [1, 2, 2], [1, 3, 2], [5, 1, 2, 3], [1, 2, 3, 3, 4], [0, -FAR]):
            for start in (False, True):
                self.assertRaises(BadArgument, Waveform, start, changes)

    def test_shows_and_is_steady(self):
        for waveform, values in all_waveforms():
            for low, high in itertools.product(TIMES, TIMES):
                if low > high:
                    self.assertRaises(BadArgument, waveform.is_steady, low, high)
                    self.assertRaises(BadArgument, waveform.shows, True, low, high)
                    self.assertRaises(BadArgument, waveform.shows, False, low, high)
                    continue
                seen = values[low + 6:high + 7]
                self.assertIs(waveform.is_steady(low, high), len(set(seen)) == 1)
                self.assertIs(waveform.shows(True, low, high), True in seen)
                self.assertIs(waveform.shows(False, low, high), False in seen)

    def test_shifted(self):
        for waveform, values in all_waveforms():
            for by in (-2, 0, 1):
                moved = waveform.shifted(by)
                self.assertEqual([moved.value_at(time) for time in TIMES],
                                 [waveform.value_at(time - by) for time in TIMES])
                self.assertEqual(moved.changes(), [time + by for time in waveform.changes()])
            self.check(waveform, values)
        self.assertEqual(Waveform(True, [3, 5]).shifted(-FAR).changes(), [3 - FAR, 5 - FAR])

    def test_negation(self):
        for waveform, values in all_waveforms():
            self.check(~waveform, [not value for value in values])
            self.check(waveform, values)

    def test_two_waveforms(self):
        for (a, p), (b, q) in itertools.product(all_waveforms(), repeat=2):
            self.assertEqual(values_of(a & b), [x and y for x, y in zip(p, q)])
            self.assertEqual(values_of(a | b), [x or y for x, y in zip(p, q)])
            self.assertEqual(values_of(a ^ b), [x != y for x, y in zip(p, q)])
            for joined in (a & b, a | b, a ^ b):
                self.check(joined, values_of(joined))
            self.assertIs(a.same_as(b), p == q)

    def test_the_parts_are_not_changed(self):
        pairs = list(all_waveforms())
        a, b = pairs[20][0], pairs[50][0]
        a & b, a | b, a ^ b, ~a, a.same_as(b)
        self.check(*pairs[20])
        self.check(*pairs[50])

    def test_same_as(self):
        self.assertIs(Waveform(False, [1, 2]).same_as(Waveform(False, [1, 2])), True)
        for start, changes in ((True, [1, 2]), (False, [1]), (False, [1, 3]), (False, []), (False, [1, 2, 3]),
                               (True, [1])):
            self.assertIs(Waveform(False, [1, 2]).same_as(Waveform(start, changes)), False)

    def test_lists_that_are_changed(self):
        changes = [1, 5]
        waveform = Waveform(False, changes)
        changes.append(7)
        changes[0] = 2
        self.assertEqual(waveform.changes(), [1, 5])
        waveform.changes().append(9)
        self.assertEqual(waveform.changes(), [1, 5])
        for other in (~waveform, waveform & waveform, waveform | waveform, waveform.shifted(0)):
            other.changes().clear()
            self.assertEqual((other.changes(), waveform.changes()), ([1, 5], [1, 5]))


class Bits(unittest.TestCase):
    def test_all_short_lists(self):
        for many in range(5):
            for bits in itertools.product((False, True), repeat=many):
                for before, after, first in itertools.product((False, True), (False, True), (-3, 0, 2)):
                    waveform = Waveform.of_bits(first, list(bits), before=before, after=after)
                    values = [before if time < first else bits[time - first] if time < first + many else after
                              for time in TIMES]
                    self.assertEqual(values_of(waveform), values)
                    self.assertEqual(waveform.changes(), plain_changes(values))
                    self.assertIs(waveform.start, before)
                    self.assertIs(type(waveform), Waveform)

    def test_defaults(self):
        self.assertEqual(Waveform.of_bits(5, [True]).changes(), [5, 6])
        self.assertEqual(Waveform.of_bits(5, [True], after=True).changes(), [5])
        self.assertEqual(Waveform.of_bits(5, [True], before=True).changes(), [6])
        self.assertEqual(Waveform.of_bits(5, []).changes(), [])
        self.assertEqual(Waveform.of_bits(FAR, [], after=True).changes(), [FAR])
        self.assertIs(Waveform.of_bits(FAR, [], before=True).start, True)

    def test_the_list_is_not_changed(self):
        bits = [True, False]
        waveform = Waveform.of_bits(0, bits, after=True)
        self.assertEqual(bits, [True, False])
        bits[0] = False
        self.assertEqual(waveform.changes(), [0, 1, 2])


WINDOWS = [(since, until) for since in (None, -3, 0, 2) for until in (None, -4, -3, -2, 0, 1, 2, 4)]


class Windows(unittest.TestCase):
    def inside(self, window, time):
        since, until = window
        if since is not None and time < since:
            return False
        return until is None or time < until

    def test_in_window(self):
        for window in WINDOWS:
            for time in list(TIMES) + [-FAR, FAR]:
                self.assertIs(in_window(window, time), self.inside(window, time))

    def test_holds(self):
        for waveform, values in all_waveforms():
            for window in WINDOWS:
                seen = [value for time, value in zip(TIMES, values) if self.inside(window, time)]
                for value in (False, True):
                    self.assertIs(holds(waveform, value, window), set(seen) <= {value}, (waveform.changes(), window))

    def test_empty_windows(self):
        for window in ((0, 0), (5, 3), (FAR, -FAR)):
            for waveform in (Waveform(False, []), Waveform(True, [0, 4])):
                self.assertIs(holds(waveform, True, window), True)
                self.assertIs(holds(waveform, False, window), True)
            self.assertIs(in_window(window, 4), False)

    def test_a_change_at_an_end(self):
        waveform = Waveform(False, [3, 8])
        self.assertIs(holds(waveform, True, (3, 8)), True)
        self.assertIs(holds(waveform, True, (2, 8)), False)
        self.assertIs(holds(waveform, True, (3, 9)), False)
        self.assertIs(holds(waveform, False, (None, 3)), True)
        self.assertIs(holds(waveform, False, (None, 4)), False)
        self.assertIs(holds(waveform, False, (8, None)), True)
        self.assertIs(holds(waveform, False, (7, None)), False)
        self.assertIs(holds(waveform, False, (None, None)), False)
        self.assertIs(holds(Waveform(False, []), False, (None, None)), True)


class AscendingLists(unittest.TestCase):
    def test_count_until(self):
        source = random.Random(1)
        for _ in range(200):
            numbers = sorted(source.sample(range(-20, 20), source.randrange(12)))
            self.assertTrue(is_ascending(numbers))
            for limit in range(-22, 22):
                self.assertEqual(count_until(numbers, limit), sum(number <= limit for number in numbers))

    def test_is_ascending(self):
        for numbers, wanted in (([], True), ([4], True), ([4, 5], True), ([4, 4], False), ([5, 4], False),
                                ([1, 2, 3, 3], False), ([1, 0, 3, 4], False)):
            self.assertIs(is_ascending(numbers), wanted)


if __name__ == "__main__":
    unittest.main()
