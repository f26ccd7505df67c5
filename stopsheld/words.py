"""Words of 16 bits, the operations on them, and the names of blocks and variables."""

WORDS_BELOW_ZERO = 32768
WORDS_IN_ALL = 65536
LETTERS = "abcdefghijklmnopqrstuvwxyz"
DIGITS = "0123456789"
LONGEST_NAME = 6


def wrap(integer):
    """Give the word from which an integer differs by a multiple of 65,536."""
    return (integer + WORDS_BELOW_ZERO) % WORDS_IN_ALL - WORDS_BELOW_ZERO


def operate(operation, a, b):
    """Give the word that an operation makes of two words."""
    if operation == "add":
        return wrap(a + b)
    if operation == "sub":
        return wrap(a - b)
    if operation == "mul":
        return wrap(a * b)
    if operation == "less":
        return 1 if a < b else 0
    return 1 if a == b else 0


def is_name(text):
    """Tell whether a text is a name of a block or a variable."""
    if not 1 <= len(text) <= LONGEST_NAME or text == "else":
        return False
    # isalpha and isdigit would also take letters and digits of other scripts.
    return text[0] in LETTERS and all([sign in LETTERS or sign in DIGITS for sign in text])
