"""What several test files need."""

import contextlib
import doctest
import sys

from signoff.tokens import is_name, is_numeral

CHAIN = 5000


def name(text):
    return ("name", text)


def const(value):
    return ("const", value)


def chain(kind, many):
    """A tree of the binary operator that groups to the left, with many operands `a`."""
    tree = name("a")
    for _ in range(many - 1):
        tree = (kind, tree, name("a"))
    return tree


def same_tree(first, second):
    """Whether two trees are equal, without nested calls, unlike `==`."""
    waiting = [(first, second)]
    while waiting:
        one, other = waiting.pop()
        if isinstance(one, tuple) and isinstance(other, tuple):
            if len(one) != len(other):
                return False
            waiting.extend(zip(one, other))
        elif one != other or type(one) is not type(other):
            return False
    return True


@contextlib.contextmanager
def few_calls(many=300):
    """Lets calls be nested only so many deeper than here."""
    depth = 0
    frame = sys._getframe()
    while frame is not None:
        depth += 1
        frame = frame.f_back
    before = sys.getrecursionlimit()
    sys.setrecursionlimit(depth + many)
    try:
        yield
    finally:
        sys.setrecursionlimit(before)


def near_text(source, text, characters):
    """A text in which one character was put in, left out or replaced."""
    at = source.randrange(len(text))
    other = source.choice(characters)
    return source.choice((text[:at] + other + text[at:], text[:at] + text[at + 1:],
                          text[:at] + other + text[at + 1:]))


def accepted_texts(texts, read, write, error):
    """The number of texts that are accepted; each of them must be the written form of what was read."""
    many = 0
    for text in texts:
        try:
            found = read(text)
        except error:
            continue
        many += 1
        if write(found) != text:
            raise AssertionError(f"{text!r} was accepted")
    return many


def failures(text):
    """The number of examples in a text, and of those that fail."""
    test = doctest.DocTestParser().get_doctest(text, {}, "example", None, 0)
    result = doctest.DocTestRunner(verbose=False).run(test)
    return result.attempted, result.failed


# The grammar of point 1.3, with the repetitions written as rules that call themselves.
# NAME and NUMERAL stand for such tokens; every other word that is no rule stands for itself.
GRAMMAR = {
    "DECK": ["", "CELL DECK", "MODULE DECK"],
    "CELL": ["cell NAME ( NAMES ) = EXPRESSION { PINS }"],
    "PINS": ["", "pin NAME RANGE ; PINS"],
    "MODULE": ["module NAME ( NAMES ) -> ( NAMES ) { ITEMS }"],
    "ITEMS": ["", "ITEM ITEMS"],
    "ITEM": [
        "gate NAME = NAME ( NAMES ) ;",
        "part NAME : ( NAMES ) = NAME ( NAMES ) ;",
        "reg NAME = NAME edge RANGE out RANGE setup NUMERAL hold NUMERAL start BIT ;",
    ],
    "NAMES": ["", "NAME MORE"],
    "MORE": ["", ", NAME MORE"],
    "RANGE": ["NUMERAL .. NUMERAL"],
    "BIT": ["0", "1"],
    "EXPRESSION": ["EXCLUSIVE", "EXCLUSIVE | EXPRESSION"],
    "EXCLUSIVE": ["PRODUCT", "PRODUCT ^ EXCLUSIVE"],
    "PRODUCT": ["FACTOR", "FACTOR & PRODUCT"],
    "FACTOR": ["ATOM", "! FACTOR"],
    "ATOM": ["NAME", "BIT", "( EXPRESSION )"],
}


def fits(symbol, token):
    if symbol == "NAME":
        return is_name(token)
    if symbol == "NUMERAL":
        return is_numeral(token)
    return symbol == token


def _opened(stacks):
    """The stacks that are empty or have a token on top, after all choices of rules."""
    found = set()
    waiting = list(stacks)
    while waiting:
        stack = waiting.pop()
        if stack and stack[0] in GRAMMAR:
            waiting.extend([tuple(choice.split()) + stack[1:] for choice in GRAMMAR[stack[0]]])
        else:
            found.add(stack)
    return found


def syntax_fault(rule, tokens):
    """The attribute `at` of the error for these tokens, None if they follow the rule.

    It keeps every way in which the rule may go on, so it finds the longest
    beginning of the tokens by the words of the document, not by a parser's choices.
    """
    stacks = _opened({(rule,)})
    for at, token in enumerate(tokens):
        stacks = _opened({stack[1:] for stack in stacks if stack and fits(stack[0], token)})
        if not stacks:
            return at
    return None if () in stacks else len(tokens)
