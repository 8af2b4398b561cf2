"""Reports as texts."""

from signoff.errors import BadReport
from signoff.flow import is_clean_report
from signoff.tokens import is_name
from signoff.written import bit_of, integer_of, lines_of, shown_bit


def write_report(report):
    """The text of a report."""
    module, period, rows = report
    lines = [f"module {module} period {period}"] + [_shown_row(row) for row in rows] + [_verdict(report)]
    return "".join([line + "\n" for line in lines])


def read_report(text):
    """The report that a text shows."""
    lines = lines_of(text)
    if len(lines) < 2:
        raise BadReport("there are too few whole lines")
    module, period = _read_head(lines[0])
    rows = tuple([_read_row(line) for line in lines[1:-1]])
    _check_rows(rows)
    report = (module, period, rows)
    if lines[-1] != _verdict(report):
        raise BadReport("the last line does not fit the rows")
    return report


def _verdict(report):
    """The last line of a report."""
    return "clean" if is_clean_report(report) else "not clean"


def _shown_row(row):
    name, setup, hold, violation = row
    return f"reg {name} setup {_shown_margin(setup)} hold {_shown_margin(hold)} {_shown_violation(violation)}"


def _shown_margin(margin):
    return "none" if margin is None else str(margin)


def _shown_violation(violation):
    if violation is None:
        return "ok"
    time, vector = violation
    bits = "".join([shown_bit(bit) for bit in vector]) if vector else "-"
    return f"loose at {time} for {bits}"


def _read_head(line):
    """The name of the module and the period."""
    words = line.split(" ")
    if len(words) != 4 or words[0] != "module" or words[2] != "period" or not _is_name(words[1]):
        raise BadReport("the first line is wrong")
    period = _read_integer(words[3])
    if period < 1:
        raise BadReport("the period is less than 1")
    return words[1], period


def _read_row(line):
    words = line.split(" ")
    if len(words) < 7 or (words[0], words[2], words[4]) != ("reg", "setup", "hold"):
        raise BadReport("a line is not that of a reg")
    if not all([_is_name(piece) for piece in words[1].split("/")]):
        raise BadReport("the name of a reg is wrong")
    return words[1], _read_margin(words[3]), _read_margin(words[5]), _read_violation(words[6:])


def _read_margin(word):
    return None if word == "none" else _read_integer(word)


def _read_violation(words):
    if words == ["ok"]:
        return None
    if len(words) != 5 or (words[0], words[1], words[3]) != ("loose", "at", "for"):
        raise BadReport("the end of a line is wrong")
    return _read_integer(words[2]), _read_vector(words[4])


def _read_vector(word):
    if word == "-":
        return ()
    bits = tuple([bit_of(character) for character in word])
    if len(bits) == 0 or None in bits:
        raise BadReport("a vector is wrong")
    return bits


def _read_integer(word):
    number = integer_of(word)
    if number is None:
        raise BadReport("an integer is wrong")
    return number


def _is_name(word):
    return word != "" and is_name(word)


def _check_rows(rows):
    """Raises BadReport if two names are equal, or two vectors have different lengths."""
    names = [row[0] for row in rows]
    if len(set(names)) < len(names):
        raise BadReport("two regs have the same name")
    lengths = [len(row[3][1]) for row in rows if row[3] is not None]
    if len(set(lengths)) > 1:
        raise BadReport("the vectors have different lengths")
