"""Papers, which tell for each block of code what facts there are: checked, and found."""

from stopsheld.code import locations_in
from stopsheld.errors import BadPaper
from stopsheld.facts import Facts, facts_ahead, with_instructions
from stopsheld.programs import definitions, edges, sides


def follow_move(facts, move):
    """Give the facts behind a move."""
    found = Facts(facts)
    found.follow_move(move)
    return found.pairs()


def follow_line(facts, line, variable):
    """Give the facts behind a line, of which the instruction defines this variable, or none."""
    found = Facts(facts)
    found.follow_line(line, variable)
    return found.pairs()


def find_paper(program, code):
    """Give the greatest paper, if it is right."""
    paper = greatest(program, code)
    check_paper(program, code, paper)
    return paper


def greatest(program, code):
    """Give the greatest paper, right or not."""
    _refuse(_unlike(program, code))
    every = tuple([(location, name) for location in locations_in(code) for name in definitions(program)])
    paper = [Facts(_input_facts(program, code)).pairs()] + [every for _ in program[1:]]
    rows = edges(program)
    known = None
    # Facts can only go, so their numbers tell when none goes any more.
    while known != [len(facts) for facts in paper]:
        known = [len(facts) for facts in paper]
        for edge in rows:
            found = _facts_behind(program, code, paper, edge)
            paper[edge[2]] = tuple([fact for fact in paper[edge[2]] if found.has(fact[0], fact[1])])
    return tuple(paper)


def _input_facts(program, code):
    """Give the facts that input locations have their inputs."""
    return tuple(zip(code[0], program[0][1]))


def _facts_behind_moves(program, code, paper, edge):
    """Give the facts behind the moves of an edge."""
    block, side = edge[:2]
    _, lines, end = code[1][block]
    _, moves = sides(end)[side]
    return facts_ahead(program, code, paper, (block, len(lines), side, len(moves)))


def _facts_behind(program, code, paper, edge):
    """Give the facts behind an edge of the program."""
    _, _, target, arguments = edge
    found = _facts_behind_moves(program, code, paper, edge)
    found.follow_entry(program[target][1], arguments)
    return found


def check_paper(program, code, paper):
    """Refuse a paper that is not right."""
    _refuse(_unlike(program, code))
    if len(paper) != len(program):
        raise BadPaper(None, None, "paper")
    for block in range(len(program)):
        _refuse(_fault_in_block(program, code, paper, block))


def _refuse(fault):
    """Raise the error of a fault (number of the block, place in it, reason); None is no fault."""
    if fault is not None:
        raise BadPaper(fault[0], fault[1], fault[2])


def _unlike(program, code):
    """Give the first fault for which program and code do not go together, or None."""
    inputs, blocks = code
    if len(inputs) != len(program[0][1]):
        return (None, None, "inputs")
    if [block[0] for block in blocks] != [block[0] for block in program]:
        return (None, None, "blocks")
    for number, (_, lines, end) in enumerate(blocks):
        place = _first_unlike(program[number], lines, end)
        if place is not None:
            return (number, place, "line")
    return None


def _first_unlike(block, lines, end):
    """Give the number of the first line, or of the end, that does not go together with a block of the program."""
    left = list(block[2])
    for number, line in enumerate(lines):
        if line[0] == "move":
            continue
        if not left or _in_common(line) != _in_common(left.pop(0)):
            return number
    return len(lines) if left or _in_common(end) != _in_common(block[3]) else None


def _in_common(row):
    """Give what an instruction or end and its line have in common: kind, and word, operation or targets."""
    kind = row[0]
    if kind in ("const", "op"):
        return (kind, row[2])
    return (kind,) + tuple([target for target, _ in sides(row)])


def _fault_in_block(program, code, paper, block):
    """Give the first fault of a paper in a block, or None."""
    if block == 0 and any([fact not in _input_facts(program, code) for fact in paper[0]]):
        return (0, 0, "input")
    _, lines, end = code[1][block]
    facts = Facts(paper[block])
    for number, (line, instruction, variable) in enumerate(with_instructions(program, code, block)):
        if instruction is not None and not _has_operands(facts, line, instruction):
            return (block, number, "operand")
        facts.follow_line(line, variable)
    if not _has_operands(facts, end, program[block][3]):
        return (block, len(lines), "operand")
    for edge in edges(program):
        if edge[0] == block and not _is_right_edge(program, code, paper, edge):
            return (block, len(lines), "edge")
    return None


def _has_operands(facts, row, instruction):
    """Tell whether each location that a line or end uses has a fact about the variable in its place."""
    return all([facts.has(place, name) for place, name in zip(_operands(row), _operands(instruction))])


def _operands(row):
    """Give what an instruction or end, or its line, uses, other than arguments."""
    if row[0] == "op":
        return row[3:]
    return row[1:2] if row[0] in ("print", "branch", "return") else ()


def _is_right_edge(program, code, paper, edge):
    """Tell whether all arguments of an edge have facts, and all facts of its target are there behind it."""
    _, _, target, arguments = edge
    found = _facts_behind_moves(program, code, paper, edge)
    if any([not found.places_of(argument) for argument in arguments]):
        return False
    found.follow_entry(program[target][1], arguments)
    return all([found.has(location, variable) for location, variable in paper[target]])
