"""Assignments of locations to variables: made, measured and improved."""

from stopsheld.errors import Clash
from stopsheld.living import clashes, definition_sets
from stopsheld.programs import defined_by, definitions, edges, immediate, uses_of


def conflicts(program, assignment):
    """Give the pairs of variables that clash and have the same location, in the order of clashes."""
    return _same_place(clashes(program), dict(assignment))


def _same_place(pairs, places):
    """Give those of the pairs of variables that have the same place."""
    return tuple([(first, second) for first, second in pairs if places[first] == places[second]])


def cost(program, assignment):
    """Give the number of pairs of an edge and a parameter whose argument has another location."""
    rows = _passed(program)
    return len(rows) - len(_same_place(rows, dict(assignment)))


def _passed(program):
    """Give the list of (argument, parameter) of all edges, each as often as there are edges that have it."""
    found = []
    for _, _, target, arguments in edges(program):
        found.extend(list(zip(arguments, program[target][1])))
    return found


def assign(program, registers):
    """Give the assignment that is made for a number of registers."""
    spilled = _spilled(program, registers)
    rows = _set_of_each(program)
    places = {}
    for block in _blocks_by_tree(program):
        for variable in definitions((program[block],)):
            taken = [places[other] for other in rows[variable] if other in places]
            places[variable] = _first_free("s" if variable in spilled else "r", taken)
    return tuple([(variable, places[variable]) for variable in definitions(program)])


def _first_free(kind, taken):
    """Give the location of a kind with the least number that is not taken."""
    number = 0
    while f"{kind}{number}" in taken:
        number += 1
    return f"{kind}{number}"


def _blocks_by_tree(program):
    """Give the numbers of the blocks in the order of the tree of dominators."""
    above = immediate(program)
    found = []
    left = [0]
    while left:
        here = left.pop()
        found.append(here)
        # The last one is taken first, with all below it ahead of the next.
        left.extend([number for number in reversed(range(len(program))) if above[number] == here])
    return found


def _set_of_each(program):
    """Give for each variable its definition set, for a parameter that of its block."""
    left = list(definition_sets(program))
    found = {}
    for _, parameters, instructions, _ in program:
        row = left.pop(0)
        for parameter in parameters:
            found[parameter] = row
        for instruction in instructions:
            if defined_by(instruction) is not None:
                found[defined_by(instruction)] = left.pop(0)
    return found


def _spilled(program, registers):
    """Give the list of the variables that do not stay in registers."""
    rows = definition_sets(program)
    weights = _weights(program)
    found = []
    row = _first_overfull(rows, found, registers)
    while row is not None:
        found.append(_lightest(row, weights))
        row = _first_overfull(rows, found, registers)
    order = definitions(program)
    heaviest_first = sorted([(-weights[name], place) for place, name in enumerate(order) if name in found])
    for _, at in heaviest_first:
        others = [name for name in found if name != order[at]]
        if _first_overfull(rows, others, registers) is None:
            found = others
    return found


def _lightest(row, weights):
    """Give the variable of a row that has the least weight, the first one of several."""
    least = min([weights[variable] for variable in row])
    return [variable for variable in row if weights[variable] == least][0]


def _first_overfull(rows, spilled, registers):
    """Give those that stay of the first definition set that has more of them than there are registers, or None."""
    for row in rows:
        staying = [variable for variable in row if variable not in spilled]
        if len(staying) > registers:
            return staying
    return None


def _weights(program):
    """Give for each variable how often it occurs in the program."""
    found = {variable: 1 for variable in definitions(program)}
    for _, _, instructions, end in program:
        for row in instructions + (end,):
            for variable in uses_of(row):
                found[variable] += 1
    return found


def coalesce(program, assignment):
    """Give the assignment behind coalescing."""
    pairs = clashes(program)
    places = dict(assignment)
    if _same_place(pairs, places):
        raise Clash()
    moved = _one_moved(program, pairs, places)
    while moved is not None:
        places = moved
        moved = _one_moved(program, pairs, places)
    return tuple([(variable, places[variable]) for variable in definitions(program)])


def _one_moved(program, pairs, places):
    """Give the places behind the move of the first variable that can be moved, or None."""
    rows = _passed(program)
    together = len(_same_place(rows, places))
    for variable in definitions(program):
        for other in definitions(program):
            if other == variable or ((variable, other) not in rows and (other, variable) not in rows):
                continue
            moved = {key: places[key] for key in places}
            moved[variable] = places[other]
            if not _same_place(pairs, moved) and len(_same_place(rows, moved)) > together:
                return moved
    return None
