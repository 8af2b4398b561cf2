"""What written reports and written records have in common: lines, integers and bits."""

from signoff.tokens import DIGITS

MOST_DIGITS = 60


def lines_of(text):
    """The list of the lines of a text without their line feeds; none if the last line has no line feed."""
    return text[:-1].split("\n") if text.endswith("\n") else []


def integer_of(word):
    """The integer whose written form is a word, None if there is none, or if it is too long."""
    digits = word.removeprefix("-")
    if digits == "" or len(digits) > MOST_DIGITS or any([character not in DIGITS for character in digits]):
        return None
    number = int(word)
    # Else there are zeros in front, or a sign in front of 0.
    return number if str(number) == word else None


def bit_of(character):
    """The boolean that a character shows, None if it shows none."""
    if character == "0":
        return False
    return True if character == "1" else None


def shown_bit(bit):
    """The character that shows a boolean."""
    return "1" if bit else "0"
