"""Programs in single assignment: their variables, their edges, and which blocks dominate which."""


def definitions(program):
    """Give all variables of a program in definition order."""
    found = []
    for _, parameters, instructions, _ in program:
        found.extend(parameters)
        for instruction in instructions:
            variable = defined_by(instruction)
            if variable is not None:
                found.append(variable)
    return tuple(found)


def defined_by(instruction):
    """Give the variable that an instruction defines, or None."""
    if instruction[0] == "print":
        return None
    return instruction[1]


def uses_of(row):
    """Give the variables that an instruction or end uses, in its order, each as often as it stands there."""
    kind = row[0]
    if kind == "op":
        return (row[3], row[4])
    if kind in ("print", "return"):
        return (row[1],)
    if kind == "jump":
        return row[2]
    if kind == "branch":
        return (row[1],) + row[3] + row[5]
    return ()


def edges(program):
    """Give (number of the block, side, number of the target, arguments) of all edges, by blocks, then sides."""
    numbers = {block[0]: number for number, block in enumerate(program)}
    found = []
    for number, block in enumerate(program):
        for side, (target, arguments) in enumerate(sides(block[3])):
            found.append((number, side, numbers[target], arguments))
    return tuple(found)


def sides(end):
    """Give (name of the target, arguments) for each side of an end, of code with moves in place of the arguments."""
    if end[0] == "jump":
        return ((end[1], end[2]),)
    if end[0] == "branch":
        return ((end[2], end[3]), (end[4], end[5]))
    return ()


def side_taken(end, words):
    """Give the side of the edge that is taken by a jump, or by a branch with these words under their names."""
    return 1 if end[0] == "branch" and words[end[1]] == 0 else 0


def dominators(program):
    """Give for each block the numbers of its dominators, ascending, itself too."""
    # A block dominates just those blocks that cannot be reached any more without it.
    many = len(program)
    reached = [reached_without(program, barred) for barred in range(many)]
    return tuple([tuple([at for at in range(many) if block not in reached[at]]) for block in range(many)])


def reached_without(program, barred):
    """Give the numbers of the blocks to which a way from the entry leads that avoids the barred one (None: any way)."""
    if barred == 0:
        return []
    rows = edges(program)
    found = [0]
    left = [0]
    while left:
        here = left.pop()
        for source, _, target, _ in rows:
            if source == here and target != barred and target not in found:
                found.append(target)
                left.append(target)
    return found


def immediate(program):
    """Give the number of the immediate dominator of each block, None for the entry."""
    rows = dominators(program)
    found = []
    for block, row in enumerate(rows):
        others = tuple([at for at in row if at != block])
        found.append(_dominated_by_all(others, rows))
    return tuple(found)


def _dominated_by_all(others, rows):
    """Give the one of the other dominators of a block that all of them dominate, None if there are none."""
    # What dominates a dominator of the block dominates the block, so no more than the others can stand in its row.
    for at in others:
        if rows[at] == others:
            return at
    return None
