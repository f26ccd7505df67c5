"""Texts of code, read and written."""

from stopsheld.code import is_location
from stopsheld.errors import BadCode
from stopsheld.forms import is_definition, line_pieces, line_shape
from stopsheld.layout import block_reasons, blocks_of, first_fault, first_reason, kinds_of, place_reason
from stopsheld.pieces import lines_of, text_of
from stopsheld.words import is_name

LONGEST_TEXT = 3000
NAME_REASONS = ("same input twice", "too many blocks", "duplicate block", "unknown block", "entry as target")


def parse_code(text):
    """Give the code of a text."""
    if len(text) > LONGEST_TEXT:
        raise BadCode(0, "text too long")
    rows = [(number, _shape(pieces)) for number, pieces in lines_of(text)]
    _refuse(_line_fault(rows))
    _refuse(first_fault(rows, [_name_reason(rows, at) for at in range(len(rows))]))
    return (rows[0][1][1], blocks_of(rows[1:]))


def _refuse(fault):
    """Raise the error of a fault (number of the line, reason); None is no fault."""
    if fault is not None:
        raise BadCode(fault[0], fault[1])


def _shape(pieces):
    """Give the shape of a line of code, ("inputs", locations) and ("block", name) too, or None."""
    if is_definition(pieces):
        if pieces[2:3] == ["move"] and len(pieces) == 4 and is_location(pieces[0]) and is_location(pieces[3]):
            return ("move", pieces[0], pieces[3])
    elif pieces[0] == "inputs":
        return ("inputs", tuple(pieces[1:])) if all([is_location(piece) for piece in pieces[1:]]) else None
    elif pieces[0] == "block":
        return ("block", pieces[1]) if len(pieces) == 2 and is_name(pieces[1]) else None
    return line_shape(pieces, is_location, _moves)


def _moves(pieces):
    """Give the moves that pieces tell, or None if one tells none."""
    found = []
    for piece in pieces:
        move = tuple(piece.split("="))
        if len(move) != 2 or not is_location(move[0]) or not is_location(move[1]):
            return None
        found.append(move)
    return tuple(found)


def _line_fault(rows):
    """Give the first line that has no form, or stands where it cannot, or that there is no block."""
    kinds = kinds_of(rows)
    fault = first_fault(rows, [_line_reason(kinds, at) for at in range(len(kinds))])
    return (1, "no block") if fault is None and "block" not in kinds else fault


def _line_reason(kinds, at):
    """Give the first reason that the form of a line, or where it stands, gives to refuse it, or None."""
    if not kinds[at]:
        return "not a line of code"
    if at == 0:
        return None if kinds[0] == "inputs" else "inputs expected"
    return "inputs again" if kinds[at] == "inputs" else place_reason(kinds, at)


def _name_reason(rows, at):
    """Give the first reason that the names in a line give to refuse it, or None."""
    shape = rows[at][1]
    found = block_reasons(rows, at)
    if shape[0] == "inputs" and len(set(shape[1])) < len(shape[1]):
        found.append("same input twice")
    return first_reason(NAME_REASONS, found)


def code_text(code):
    """Give the written form of code."""
    inputs, blocks = code
    rows = [("inputs",) + inputs]
    for name, lines, end in blocks:
        rows.append(("block", name))
        rows.extend([line_pieces(line) for line in lines])
        rows.append(line_pieces(_end_with_pieces(end)))
    return text_of(rows)


def _end_with_pieces(end):
    """Give an end with the pieces of its moves in their place."""
    if end[0] == "jump":
        return end[:2] + (_move_pieces(end[2]),)
    if end[0] == "branch":
        return end[:3] + (_move_pieces(end[3]), end[4], _move_pieces(end[5]))
    return end


def _move_pieces(moves):
    """Give the pieces that tell moves."""
    return tuple([f"{destination}={source}" for destination, source in moves])
