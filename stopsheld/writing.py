"""Programs, written."""

from stopsheld.forms import line_pieces
from stopsheld.pieces import text_of


def program_text(program):
    """Give the written form of a program."""
    rows = []
    for name, parameters, instructions, end in program:
        rows.append(("block", name) + parameters)
        rows.extend([line_pieces(instruction) for instruction in instructions])
        rows.append(line_pieces(end))
    return text_of(rows)
