"""Words of written lines: integers as point 19 writes them."""

MOST_DIGITS = 30


def is_integer(word):
    """True if a word is an integer of at most thirty digits, without "+" and leading zeros, and not "-0"."""
    digits = word[1:] if word.startswith("-") else word
    if not digits.isdigit() or len(digits) > MOST_DIGITS:
        return False
    return word == "0" or digits[0] != "0"


def read_integers(words):
    """The tuple of the integers that words are, or None if one of them is none."""
    if not all([is_integer(word) for word in words]):
        return None
    return tuple([int(word) for word in words])
