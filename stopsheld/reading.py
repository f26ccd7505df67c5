"""Texts of programs, read."""

from stopsheld.errors import BadProgram
from stopsheld.forms import is_definition, line_shape, named_row
from stopsheld.layout import ENDS, block_reasons, blocks_of, first_fault, first_reason, kinds_of, place_reason
from stopsheld.layout import rows_by_block
from stopsheld.pieces import lines_of
from stopsheld.programs import defined_by, definitions, dominators, reached_without, sides, uses_of
from stopsheld.words import is_name

LONGEST_TEXT = 1500
MOST_PARAMETERS = 4
MOST_DEFINITIONS = 16
NAME_REASONS = ("too many blocks", "too many parameters", "too many definitions", "duplicate block",
                "duplicate variable", "unknown block", "wrong number of arguments", "entry as target")


def parse_lines(text):
    """Give the list of (number of the line, its shape), None for a line without a form."""
    return [(number, _shape(pieces)) for number, pieces in lines_of(text)]


def _shape(pieces):
    """Give the shape of a line of a program, or None."""
    if pieces[0] == "block" and not is_definition(pieces):
        head = named_row(pieces[1:], _names)
        return None if head is None else ("block",) + head
    return line_shape(pieces, is_name, _names)


def _names(pieces):
    """Give the pieces as a tuple of names, or None if one is no name."""
    return tuple(pieces) if all([is_name(piece) for piece in pieces]) else None


def parse_program(text):
    """Give the program of a text."""
    if len(text) > LONGEST_TEXT:
        raise BadProgram(0, "text too long")
    rows = parse_lines(text)
    _refuse(_line_fault(rows))
    _refuse(first_fault(rows, [_name_reason(rows, at) for at in range(len(rows))]))
    program = blocks_of(rows)
    _refuse(_way_fault(rows, program))
    _refuse(_use_fault(rows, program))
    return program


def _refuse(fault):
    """Raise the error of a fault (number of the line, reason); None is no fault."""
    if fault is not None:
        raise BadProgram(fault[0], fault[1])


def _line_fault(rows):
    """Give the first line that has no form, or stands where it cannot, or that there is no block."""
    # Without a block line, any line there is has a reason of its own.
    if not rows:
        return (1, "no block")
    kinds = kinds_of(rows)
    reasons = [place_reason(kinds, at) if kind else "not an instruction" for at, kind in enumerate(kinds)]
    return first_fault(rows, reasons)


def _name_reason(rows, at):
    """Give the first reason that the names of a line, or their number, give to refuse it, or None."""
    shape = rows[at][1]
    found = block_reasons(rows, at)
    if shape[0] == "block" and len(shape[2]) > MOST_PARAMETERS:
        found.append("too many parameters")
    ahead = [variable for _, row in rows[:at] for variable in _variables(row)]
    made = _variables(shape)
    if len(ahead) + len(made) > MOST_DEFINITIONS:
        found.append("too many definitions")
    if any([variable in ahead or variable in made[:place] for place, variable in enumerate(made)]):
        found.append("duplicate variable")
    if _has_wrong_number(rows, shape):
        found.append("wrong number of arguments")
    return first_reason(NAME_REASONS, found)


def _variables(shape):
    """Give the variables that a line defines, a block line its parameters."""
    if shape[0] == "block":
        return shape[2]
    variable = None if shape[0] in ENDS else defined_by(shape)
    return () if variable is None else (variable,)


def _has_wrong_number(rows, shape):
    """Tell whether a line gives a block more or fewer arguments than it has parameters."""
    many = {}
    for _, row in rows:
        # Of several blocks with one name the first is meant; the others are refused as duplicates.
        if row[0] == "block":
            many.setdefault(row[1], len(row[2]))
    return any([target in many and len(arguments) != many[target] for target, arguments in sides(shape)])


def _way_fault(rows, program):
    """Give the line of the first block to which no way leads from the entry, or None."""
    found = reached_without(program, None)
    for number, part in enumerate(rows_by_block(rows)):
        if number not in found:
            return (part[0][0], "unreachable block")
    return None


def _use_fault(rows, program):
    """Give the first line that uses a variable which is not defined there, or None."""
    above = dominators(program)
    made = [definitions((block,)) for block in program]
    for number, part in enumerate(rows_by_block(rows)):
        known = [variable for at in above[number] if at != number for variable in made[at]]
        for line, shape in part:
            if any([variable not in known for variable in uses_of(shape)]):
                return (line, "undefined variable")
            known.extend(_variables(shape))
    return None
