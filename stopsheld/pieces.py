"""Texts as lines of pieces, and the numbers among the pieces."""

from stopsheld.words import DIGITS, wrap

MOST_DIGITS = 5


def lines_of(text):
    """Give the (number of the line, list of its pieces) of a text; lines without pieces are left out, but counted."""
    found = []
    for number, line in enumerate(text.split("\n"), start=1):
        # split without a sign would part at tabs and the like too, which are no spaces.
        pieces = [piece for piece in line.split(" ") if piece]
        if pieces:
            found.append((number, pieces))
    return found


def number_of(piece):
    """Give the word that a piece tells as a number, or None if it is none."""
    digits = piece[1:] if piece.startswith("-") else piece
    # int would also take digits of other scripts, and refuses very long rows of digits.
    if not 1 <= len(digits) <= MOST_DIGITS or not all([sign in DIGITS for sign in digits]):
        return None
    number = int(piece)
    # What is not written back as it stands has a zero at its beginning, or is -0.
    return number if str(number) == piece and wrap(number) == number else None


def text_of(rows):
    """Give the text whose lines have these rows of pieces."""
    return "".join([" ".join(row) + "\n" for row in rows])
