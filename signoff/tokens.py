"""Splits a text into tokens."""

from signoff.errors import BadToken

KEYWORDS = ("cell", "pin", "module", "gate", "part", "reg", "edge", "out", "setup", "hold", "start")

# No sign begins with another one, so the order in which they are tried does not matter.
SIGNS = ("(", ")", "{", "}", ",", ";", ":", "=", "->", "..", "&", "|", "^", "!")

LETTERS = "abcdefghijklmnopqrstuvwxyz"
DIGITS = "0123456789"
RUN_CHARACTERS = "abcdefghijklmnopqrstuvwxyz0123456789_"
MOST_DIGITS = 9


def tokenize(text):
    """The list of the tokens of a text."""
    tokens = []
    at = 0
    while at < len(text):
        if text[at] == " " or text[at] == "\n":
            at += 1
        elif text[at] == "#":
            at = _line_end(text, at)
        else:
            token = _token_at(text, at)
            tokens.append(token)
            at += len(token)
    return tokens


def is_name(token):
    """Whether a token is a name; keywords are none."""
    return is_word(token) and token not in KEYWORDS


def is_numeral(token):
    """Whether a token is a numeral."""
    if len(token) > MOST_DIGITS or (token[0] == "0" and token != "0"):
        return False
    return all([character in DIGITS for character in token])


def is_word(token):
    """Whether a token is a name or a keyword."""
    return token[0] in LETTERS and all([character in RUN_CHARACTERS for character in token])


def _token_at(text, at):
    """The token that begins at an index, where neither a space nor a comment stands."""
    run = text[at:_run_end(text, at)]
    if run and (is_word(run) or is_numeral(run)):
        return run
    for sign in SIGNS:
        if text.startswith(sign, at):
            return sign
    raise BadToken(at)


def _run_end(text, at):
    end = at
    while end < len(text) and text[end] in RUN_CHARACTERS:
        end += 1
    return end


def _line_end(text, at):
    end = text.find("\n", at)
    return len(text) if end < 0 else end
