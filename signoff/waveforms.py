"""Waveforms, which are booleans that change with the time, and windows of times."""

from signoff.ascending import count_until, is_ascending
from signoff.errors import BadArgument
from signoff.tables import look_up

BOTH = (False, False, False, True)
EITHER = (False, True, True, True)
DIFFERENT = (False, True, True, False)


class Waveform:
    """A function from all times to booleans that changes finitely often."""

    def __init__(self, start, changes):
        times = list(changes)
        if not is_ascending(times):
            raise BadArgument("the changes are not ascending")
        self._start = start
        self._changes = times

    @property
    def start(self):
        """The value before all changes."""
        return self._start

    def changes(self):
        """The list of the times at which the value changes."""
        return list(self._changes)

    def value_at(self, time):
        """The value at a time."""
        return self._start != (count_until(self._changes, time) & 1 == 1)

    def shows(self, value, low, high):
        """Whether it has a value at some time from low to high."""
        return not self.is_steady(low, high) or self.value_at(low) == value

    def is_steady(self, low, high):
        """Whether it has the same value at all times from low to high."""
        if low > high:
            raise BadArgument("the first time is greater than the last one")
        return count_until(self._changes, low) == count_until(self._changes, high)

    def shifted(self, by):
        """The waveform whose value at a time t is the value at t - by."""
        return Waveform(self._start, [time + by for time in self._changes])

    def __invert__(self):
        return Waveform(not self._start, self._changes)

    def __and__(self, other):
        return self._combined(other, BOTH)

    def __or__(self, other):
        return self._combined(other, EITHER)

    def __xor__(self, other):
        return self._combined(other, DIFFERENT)

    def same_as(self, other):
        """Whether both have the same value at all times."""
        return self._start == other._start and self._changes == other._changes

    @classmethod
    def of_bits(cls, first, bits, *, before=False, after=False):
        """The waveform with the values of a list from a time on, and fixed values at all other times."""
        changes = []
        value = before
        for time, bit in enumerate([*bits, after], start=first):
            if bit != value:
                changes.append(time)
                value = bit
        return cls(before, changes)

    def _combined(self, other, table):
        """The waveform whose values a table gives for those of two waveforms."""
        lefts = set(self._changes)
        rights = set(other._changes)
        left = self._start
        right = other._start
        value = look_up(table, (left, right))
        start = value
        changes = []
        for time in sorted(set(self._changes + other._changes)):
            left = left != (time in lefts)
            right = right != (time in rights)
            if look_up(table, (left, right)) != value:
                value = not value
                changes.append(time)
        return Waveform(start, changes)


def in_window(window, time):
    """Whether a window contains a time."""
    since, until = window
    return (since is None or since <= time) and (until is None or time < until)


def holds(waveform, value, window):
    """Whether a waveform has a value at all times of a window."""
    since, until = window
    if since is not None and until is not None and since >= until:
        return True
    first = waveform.start if since is None else waveform.value_at(since)
    later = [time for time in waveform.changes() if time != since and in_window(window, time)]
    return first == value and len(later) == 0
