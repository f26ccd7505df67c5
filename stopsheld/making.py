"""Code made for an assignment of locations to the variables of a program."""

from stopsheld.colours import conflicts
from stopsheld.errors import Clash
from stopsheld.moves import order_moves


def make_code(program, assignment):
    """Give the code that is made for an assignment."""
    if conflicts(program, assignment):
        raise Clash()
    places = dict(assignment)
    rows = {name: _located(parameters, places) for name, parameters, _, _ in program}
    blocks = []
    for name, _, instructions, end in program:
        lines = tuple([_line(instruction, places) for instruction in instructions])
        blocks.append((name, lines, _end(end, places, rows)))
    return (rows[program[0][0]], tuple(blocks))


def _located(variables, places):
    """Give the locations of variables."""
    return tuple([places[variable] for variable in variables])


def _line(instruction, places):
    """Give the line of an instruction."""
    kind = instruction[0]
    location = places[instruction[1]]
    if kind == "op":
        return (kind, location, instruction[2]) + _located(instruction[3:], places)
    return (kind, location) + instruction[2:]


def _end(end, places, rows):
    """Give the end of a block of code; rows has the locations of the parameters of each block."""
    if end[0] == "jump":
        return ("jump",) + _side(end[1], end[2], places, rows)
    if end[0] == "branch":
        first = _side(end[2], end[3], places, rows)
        return ("branch", places[end[1]]) + first + _side(end[4], end[5], places, rows)
    return ("return", places[end[1]])


def _side(target, arguments, places, rows):
    """Give (name of the target, ordering of the moves) of a side of an end."""
    return (target, order_moves(tuple(zip(rows[target], _located(arguments, places)))))
