"""Records of what nets show, and records as texts."""

from signoff.errors import BadArgument, BadRecord, Refused
from signoff.tokens import is_word
from signoff.written import bit_of, integer_of, lines_of, shown_bit

# How many bits a row of a written record may have.
MOST_BITS = 100000


def record_of(run, nets, low, high):
    """The record of some nets of a run from one time to another."""
    if low > high:
        raise BadArgument("the first time is greater than the last one")
    times = range(low, high + 1)
    return low, high, tuple([(net, tuple([run.value(net, time) for time in times])) for net in nets])


def write_record(record):
    """The text of a record."""
    low, high, rows = record
    lines = [f"from {low} to {high}"]
    for name, bits in rows:
        pieces = [f"{many}x{shown_bit(bit)}" for many, bit in _pieces(bits)]
        lines.append(" ".join([name] + pieces))
    return "".join([line + "\n" for line in lines])


def read_record(text):
    """The record that a text shows."""
    lines = lines_of(text)
    if len(lines) == 0:
        raise BadRecord("there is no whole line")
    low, high = _read_head(lines[0])
    rows = tuple([_read_row(line) for line in lines[1:]])
    for _, bits in rows:
        if len(bits) != high - low + 1:
            raise BadRecord("a row has not one bit for each time")
    return low, high, rows


def same_meaning(first, second):
    """Whether two records have equal values wherever both tell of the same net and time."""
    low = max(first[0], second[0])
    high = min(first[1], second[1])
    if low > high:
        return True
    known = {}
    for name, bits in _between(second, low, high):
        known.setdefault(name, []).append(bits)
    for name, bits in _between(first, low, high):
        if any([others != bits for others in known.get(name, ())]):
            return False
    return True


def cut(record, low, high):
    """The record of the times from low to high."""
    if low > high or low < record[0] or high > record[1]:
        raise BadArgument("these are not times of the record")
    return low, high, _between(record, low, high)


def glued(first, second):
    """The record of two records of the same nets, the second of which follows the first one."""
    low, last, rows = first
    begin, high, others = second
    if begin != last + 1 or [name for name, _ in rows] != [name for name, _ in others]:
        raise Refused("the second record does not continue the first one")
    return low, high, tuple([(name, bits + later) for (name, bits), (_, later) in zip(rows, others)])


def _between(record, low, high):
    """The rows of a record, with the bits of the times from low to high only."""
    start, _, rows = record
    return tuple([(name, bits[low - start:high - start + 1]) for name, bits in rows])


def _pieces(bits):
    """The list of the longest pieces of equal bits, each as a pair (many, bit)."""
    found = []
    for bit in bits:
        if found and found[-1][1] == bit:
            found[-1] = (found[-1][0] + 1, bit)
        else:
            found.append((1, bit))
    return found


def _read_head(line):
    """The first and the last time."""
    words = line.split(" ")
    if len(words) != 4 or words[0] != "from" or words[2] != "to":
        raise BadRecord("the first line is wrong")
    low = integer_of(words[1])
    high = integer_of(words[3])
    if low is None or high is None or low > high:
        raise BadRecord("a time in the first line is wrong")
    return low, high


def _read_row(line):
    name, *pieces = line.split(" ")
    if any([part == "" or not is_word(part) for part in name.split("/")]):
        raise BadRecord("a name is wrong")
    bits = []
    for piece in pieces:
        many, bit = _read_piece(piece)
        if len(bits) > 0 and bits[-1] == bit:
            raise BadRecord("two pieces with the same value follow each other")
        # Looked at before the bits are made, since there may be very many.
        if len(bits) + many > MOST_BITS:
            raise BadRecord("a row is too long")
        bits.extend([bit] * many)
    return name, tuple(bits)


def _read_piece(piece):
    number, _, character = piece.partition("x")
    many = integer_of(number)
    bit = bit_of(character)
    if many is None or many < 1 or bit is None:
        raise BadRecord("a piece is wrong")
    return many, bit
