"""Conditions at which a session stops, as they are tested, written and read."""

from stopsheld.pieces import number_of

SIGNS = ("=", "<", ">")


def word_holds(words, condition):
    """Tell whether a word condition holds of these words under the names of variables."""
    _, variable, sign, word = condition
    if variable not in words:
        return False
    if sign == "=":
        return words[variable] == word
    return words[variable] < word if sign == "<" else words[variable] > word


def condition_text(condition):
    """Give the written form of a condition."""
    if condition[0] == "word":
        _, variable, sign, word = condition
        return f"{variable} {sign} {word}"
    _, block, number = condition
    return f"{block} {number}"


def condition_of(pieces):
    """Give the condition that pieces tell, or None."""
    number = number_of(pieces[-1]) if pieces else None
    if number is None:
        return None
    if len(pieces) == 3 and pieces[1] in SIGNS:
        return ("word", pieces[0], pieces[1], number)
    return ("point", pieces[0], number) if len(pieces) == 2 else None
