"""Reads expressions and decks."""

from signoff.errors import BadSyntax, TooDeep
from signoff.tokens import is_name, is_numeral, tokenize
from signoff.trees import height

MOST_BRACKETS = 20
MOST_NEGATIONS = 20
MOST_HEIGHT = 20

# The binary operators, from the one that binds least to the one that binds most.
BINARY = (("|", "or"), ("^", "xor"), ("&", "and"))


class TokenReader:
    """Takes the tokens of a list one after the other."""

    def __init__(self, tokens):
        self.tokens = list(tokens)
        self.at = 0

    def ahead(self):
        """The next token, or the empty text behind the last one."""
        return self.tokens[self.at] if self.at < len(self.tokens) else ""

    def take(self, token):
        """Takes the next token, which must be this one."""
        if self.ahead() != token:
            raise BadSyntax(self.at)
        self.at += 1

    def take_if(self, token):
        """Takes the next token if it is this one, and tells whether it was."""
        if self.ahead() != token:
            return False
        self.at += 1
        return True

    def take_name(self):
        """Takes a name and returns it."""
        token = self.ahead()
        if token == "" or not is_name(token):
            raise BadSyntax(self.at)
        self.at += 1
        return token

    def take_numeral(self):
        """Takes a numeral and returns its number."""
        token = self.ahead()
        if token == "" or not is_numeral(token):
            raise BadSyntax(self.at)
        self.at += 1
        return int(token)

    def take_bit(self):
        """Takes `0` or `1` and returns it as a boolean."""
        if self.take_if("0"):
            return False
        self.take("1")
        return True

    def take_end(self):
        """Raises BadSyntax if there is one more token."""
        if self.at < len(self.tokens):
            raise BadSyntax(self.at)


def parse_expression(text):
    """The tree of a text that consists of one expression."""
    reader = _reader(text)
    tree = _expression(reader)
    reader.take_end()
    _check_height(tree)
    return tree


def parse_deck(text):
    """The deck that a text describes: its cells and its modules."""
    reader = _reader(text)
    cells = []
    modules = []
    while reader.ahead() != "":
        if reader.take_if("cell"):
            cells.append(_cell(reader))
        else:
            reader.take("module")
            modules.append(_module(reader))
    for cell in cells:
        _check_height(cell[2])
    return tuple(cells), tuple(modules)


def _reader(text):
    tokens = tokenize(text)
    _check_brackets(tokens)
    return TokenReader(tokens)


def _check_brackets(tokens):
    opened = 0
    negations = 0
    for token in tokens:
        if token == "(":
            opened += 1
        elif token == ")":
            opened -= 1
        negations = negations + 1 if token == "!" else 0
        if opened > MOST_BRACKETS or negations > MOST_NEGATIONS:
            raise TooDeep("too many brackets or negations inside one another")


def _check_height(tree):
    if height(tree) > MOST_HEIGHT:
        raise TooDeep("an expression is too high")


def _cell(reader):
    """A cell, behind its keyword."""
    name = reader.take_name()
    pins = _names(reader)
    reader.take("=")
    tree = _expression(reader)
    ranges = []
    reader.take("{")
    while reader.take_if("pin"):
        pin = reader.take_name()
        low, high = _range(reader)
        reader.take(";")
        ranges.append((pin, low, high))
    reader.take("}")
    return name, pins, tree, tuple(ranges)


def _module(reader):
    """A module, behind its keyword."""
    name = reader.take_name()
    inputs = _names(reader)
    reader.take("->")
    outputs = _names(reader)
    items = []
    reader.take("{")
    while not reader.take_if("}"):
        items.append(_item(reader))
        reader.take(";")
    return name, inputs, outputs, tuple(items)


def _item(reader):
    """An item of a module, without the semicolon."""
    if reader.take_if("gate"):
        return _gate(reader)
    if reader.take_if("part"):
        return _part(reader)
    reader.take("reg")
    return _reg(reader)


def _gate(reader):
    name = reader.take_name()
    reader.take("=")
    cell = reader.take_name()
    return "gate", name, cell, _names(reader)


def _part(reader):
    name = reader.take_name()
    reader.take(":")
    outputs = _names(reader)
    reader.take("=")
    module = reader.take_name()
    return "part", name, outputs, module, _names(reader)


def _reg(reader):
    name = reader.take_name()
    reader.take("=")
    net = reader.take_name()
    reader.take("edge")
    edge = _range(reader)
    reader.take("out")
    out = _range(reader)
    reader.take("setup")
    setup = reader.take_numeral()
    reader.take("hold")
    hold = reader.take_numeral()
    reader.take("start")
    return "reg", name, net, edge, out, setup, hold, reader.take_bit()


def _names(reader):
    """The tuple of the names in a pair of brackets."""
    names = []
    reader.take("(")
    if reader.take_if(")"):
        return ()
    names.append(reader.take_name())
    while reader.take_if(","):
        names.append(reader.take_name())
    reader.take(")")
    return tuple(names)


def _range(reader):
    low = reader.take_numeral()
    reader.take("..")
    return low, reader.take_numeral()


def _expression(reader, level=0):
    """A chain of operands of the binary operator of a level, or of a later one."""
    if level == len(BINARY):
        return _factor(reader)
    sign, kind = BINARY[level]
    tree = _expression(reader, level + 1)
    while reader.take_if(sign):
        tree = (kind, tree, _expression(reader, level + 1))
    return tree


def _factor(reader):
    negations = 0
    while reader.take_if("!"):
        negations += 1
    tree = _atom(reader)
    for _ in range(negations):
        tree = ("not", tree)
    return tree


def _atom(reader):
    if reader.take_if("("):
        tree = _expression(reader)
        reader.take(")")
        return tree
    token = reader.ahead()
    if token == "0" or token == "1":
        return "const", reader.take_bit()
    return "name", reader.take_name()
