"""The forms of lines that texts of programs and texts of code have in common, read and written."""

from stopsheld.pieces import number_of
from stopsheld.words import is_name

OPERATIONS = ("add", "sub", "mul", "less", "equal")


def is_definition(pieces):
    """Tell whether a line must be a definition, whatever its first piece is."""
    return len(pieces) > 1 and pieces[1] == "="


def line_shape(pieces, fits, row_of):
    """Give the shape of a line that stands in a block, or None if it has no form.

    fits tells whether a piece may stand for a variable or location; row_of gives the tuple that the pieces behind the
    target of an edge stand for, or None.
    """
    if is_definition(pieces):
        return _definition_shape(pieces[0], pieces[2:], fits)
    kind = pieces[0]
    if kind in ("print", "return") and len(pieces) == 2 and fits(pieces[1]):
        return (kind, pieces[1])
    if kind == "jump":
        side = named_row(pieces[1:], row_of)
        return None if side is None else ("jump",) + side
    if kind == "branch":
        return _branch_shape(pieces, fits, row_of)
    return None


def _definition_shape(target, pieces, fits):
    """Give the shape of a definition of a target by the pieces behind the sign, or None."""
    if not pieces or not fits(target):
        return None
    kind = pieces[0]
    if kind == "read" and len(pieces) == 1:
        return ("read", target)
    if kind == "const" and len(pieces) == 2:
        number = number_of(pieces[1])
        return None if number is None else ("const", target, number)
    if kind in OPERATIONS and len(pieces) == 3 and fits(pieces[1]) and fits(pieces[2]):
        return ("op", target, kind, pieces[1], pieces[2])
    return None


def _branch_shape(pieces, fits, row_of):
    """Give the shape of a branch, or None; no piece but the one between the sides is "else"."""
    if pieces.count("else") != 1 or not fits(pieces[1]):
        return None
    middle = pieces.index("else")
    first = named_row(pieces[2:middle], row_of)
    second = named_row(pieces[middle + 1:], row_of)
    if first is None or second is None:
        return None
    return ("branch", pieces[1]) + first + second


def named_row(pieces, row_of):
    """Give (name of a block, what the pieces behind it stand for), or None."""
    if not pieces or not is_name(pieces[0]):
        return None
    row = row_of(pieces[1:])
    return None if row is None else (pieces[0], row)


def line_pieces(shape):
    """Give the pieces of the line of a shape; what stands behind the targets of an end are pieces already."""
    kind = shape[0]
    if kind in ("print", "return"):
        return shape
    if kind == "jump":
        return shape[:2] + shape[2]
    if kind == "branch":
        return shape[:3] + shape[3] + ("else", shape[4]) + shape[5]
    if kind == "op":
        return (shape[1], "=") + shape[2:]
    return (shape[1], "=", kind) + tuple([str(piece) for piece in shape[2:]])
