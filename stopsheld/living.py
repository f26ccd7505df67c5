"""Which variables are live, which are defined together, and which clash."""

from stopsheld.programs import defined_by, definitions, edges, uses_of


def live_at(program, point):
    """Give the variables that are live at a point, in definition order."""
    block, number = point
    return _ordered(program, _live_in_block(program, block, _live_at_beginnings(program))[number])


def live_into(program, block):
    """Give the variables that are live as a block, told by its number, is entered."""
    return _ordered(program, _without(_live_at_beginnings(program)[block], program[block][1]))


def _ordered(program, variables):
    """Give variables in definition order, each once."""
    return tuple([variable for variable in definitions(program) if variable in variables])


def _without(variables, left_out):
    """Give a list of the variables that are not left out."""
    return [variable for variable in variables if variable not in left_out]


def _live_at_beginnings(program):
    """Give for each block those that are live at its point 0."""
    found = [[] for _ in program]
    known = None
    # What is live there can only grow, so its number tells when nothing comes any more.
    while known != [len(row) for row in found]:
        known = [len(row) for row in found]
        found = [_live_in_block(program, number, found)[0] for number in range(len(program))]
    return found


def _live_in_block(program, block, beginnings):
    """Give for each point of a block those that are live there, from those at the beginnings of all blocks."""
    _, _, instructions, end = program[block]
    behind = []
    for source, _, target, _ in edges(program):
        if source == block:
            behind.extend(_without(beginnings[target], program[target][1]))
    found = [_ordered(program, behind + list(uses_of(end)))]
    for instruction in reversed(instructions):
        kept = _without(found[-1], (defined_by(instruction),))
        found.append(_ordered(program, kept + list(uses_of(instruction))))
    return list(reversed(found))


def definition_sets(program):
    """Give the definition sets: of each block its own, then those of its instructions."""
    beginnings = _live_at_beginnings(program)
    found = []
    for number, (_, parameters, instructions, _) in enumerate(program):
        points = _live_in_block(program, number, beginnings)
        found.append(_ordered(program, points[0] + parameters))
        for at, instruction in enumerate(instructions):
            if defined_by(instruction) is not None:
                found.append(_ordered(program, points[at + 1] + (defined_by(instruction),)))
    return tuple(found)


def clashes(program):
    """Give the pairs of variables that clash, the earlier one first, by definition order."""
    rows = definition_sets(program)
    order = definitions(program)
    found = []
    for at, first in enumerate(order):
        for second in order[at + 1:]:
            if any([first in row and second in row for row in rows]):
                found.append((first, second))
    return tuple(found)


def pressure(program):
    """Give the greatest size of a definition set."""
    return max([len(row) for row in definition_sets(program)], default=0)
