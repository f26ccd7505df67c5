"""Programs that the tests make by chance, from seeds, and ways through programs step by step."""

import random

from stopsheld.code import locations_in
from stopsheld.colours import assign, coalesce
from stopsheld.errors import BadPaper
from stopsheld.making import make_code
from stopsheld.papers import find_paper
from stopsheld.programs import defined_by, uses_of

LETTERS = "abcdefghijklmnopqrstuvwxyz"
# n!, by a loop in which one is live all around.
LOOP_TEXT = """block a n
one = const 1
jump b n one
block b k p
q = mul p k
l = sub k one
branch l b l q else c
block c
return q"""
LOCATIONS = [f"r{number}" for number in range(8)] + [f"s{number}" for number in range(16)] + ["t"]
OPERATIONS = ("add", "sub", "mul", "less", "equal")


def reached(targets):
    """Give the blocks that can be reached by rows of targets."""
    found = [0]
    for block in found:
        found.extend([target for target in dict.fromkeys(targets[block]) if target not in found])
    return found


def random_targets(chance, many):
    """Give rows of targets by which all blocks can be reached, from one of which nothing goes on."""
    while True:
        targets = []
        for _ in range(many):
            row = [chance.randrange(1, many) for _ in range(chance.choice((0, 1, 1, 2, 2)))] if many > 1 else []
            targets.append(tuple(row))
        if len(reached(targets)) == many:
            return targets


def above(targets, block):
    """Give the other blocks without which a block cannot be reached."""
    found = []
    for at in range(len(targets)):
        cut = [() if number == at else row for number, row in enumerate(targets)]
        if at != block and (at == 0 or block not in reached(cut)):
            found.append(at)
    return found


def random_program(chance, most_blocks=5, most_definitions=16):
    """Give a right program of at most so many blocks and definitions."""
    many = chance.randint(1, most_blocks)
    targets = random_targets(chance, many)
    names = chance.sample([letter + digit for letter in LETTERS for digit in ("", "1")], most_definitions)
    blocks = chance.sample(LETTERS, many)
    parameters, kinds = [], []
    for number in range(many):
        row = [names.pop() for _ in range(min(len(names), chance.randint(0, 3)))]
        wanted = [chance.choice(("const", "op", "op", "op", "read", "print")) for _ in range(chance.randint(0, 4))]
        if number == 0 and not row:
            wanted.insert(0, chance.choice(("const", "read")))
        made = []
        for kind in wanted:
            if kind == "print":
                made.append((kind, None))
            elif names:
                made.append((kind, names.pop()))
        parameters.append(row)
        kinds.append(made)
    return fill(chance, blocks, targets, parameters, kinds)


def fill(chance, blocks, targets, parameters, kinds):
    """Give the program of which the blocks, edges and defined variables are told, with used ones by chance."""
    program = []
    for number, name in enumerate(blocks):
        known = list(parameters[number])
        for at in above(targets, number):
            known.extend(parameters[at] + [variable for _, variable in kinds[at] if variable])
        instructions = []
        for kind, variable in kinds[number]:
            instructions.append(instruction_of(chance, kind, variable, known))
            known.extend([variable] if variable else [])
        sides = []
        for target in targets[number]:
            sides.extend([blocks[target], tuple([chance.choice(known) for _ in parameters[target]])])
        ends = {0: ("return", chance.choice(known)), 1: ("jump",), 2: ("branch", chance.choice(known))}
        end = ends[len(targets[number])] + tuple(sides)
        program.append((name, tuple(parameters[number]), tuple(instructions), end))
    return tuple(program)


def instruction_of(chance, kind, variable, known):
    """Give an instruction of a kind that uses known variables."""
    if kind == "const" or (kind == "op" and not known):
        return ("const", variable, chance.choice((0, 1, 2, -1, 7, 300, 32767, -32768)))
    if kind == "read":
        return ("read", variable)
    if kind == "print":
        return ("print", chance.choice(known))
    return ("op", variable, chance.choice(OPERATIONS), chance.choice(known), chance.choice(known))


def random_programs(seed, many, most_blocks=5, most_definitions=16):
    """Give a list of right programs, the same for the same seed."""
    chance = random.Random(seed)
    return [random_program(chance, most_blocks, most_definitions) for _ in range(many)]


def random_moves(chance, places):
    """Give a row of moves among some places, also to themselves and several to one place."""
    return tuple([(chance.choice(places), chance.choice(places)) for _ in range(chance.choice((0, 0, 1, 2, 3)))])


def random_line(chance, places):
    """Give a line of code with locations among some places."""
    first, second, third = [chance.choice(places) for _ in range(3)]
    return chance.choice((("const", first, chance.choice((0, 5, -32768, 32767))), ("read", first), ("print", first),
                          ("op", first, chance.choice(OPERATIONS), second, third), ("move", first, second)))


def random_code(chance, most_blocks=6):
    """Give right code by chance; its moves and lines have no sense."""
    blocks = chance.sample(LETTERS, chance.randint(1, most_blocks))
    places = chance.sample(LOCATIONS, chance.randint(1, 6))
    made = []
    for name in blocks:
        lines = tuple([random_line(chance, places) for _ in range(chance.randrange(5))])
        first, second = [(chance.choice(blocks[1:] or blocks), random_moves(chance, places)) for _ in range(2)]
        used = chance.choice(places)
        ends = (("return", used), ("jump",) + first, ("branch", used) + first + second)
        made.append((name, lines, chance.choice(ends if len(blocks) > 1 else ends[:1])))
    return (tuple(chance.sample(places, chance.randint(0, min(4, len(places))))), tuple(made))


def rows_of(program, block):
    """Give the instructions and the end of a block."""
    return program[block][2] + (program[block][3],)


def goes_to(program, block):
    """Give the numbers of the targets of a block."""
    names = [row[0] for row in program]
    end = program[block][3]
    told = {"return": (), "jump": end[1:2], "branch": (end[2], end[4]) if end[0] == "branch" else ()}[end[0]]
    return [names.index(target) for target in told]


def is_live(program, point, variable):
    """Tell by going all ways from a point whether a variable is live there (v1)."""
    left = [point]
    seen = []
    while left:
        block, number = here = left.pop()
        if here in seen:
            continue
        seen.append(here)
        row = rows_of(program, block)[number]
        if variable in uses_of(row):
            return True
        if number < len(program[block][2]):
            if defined_by(row) != variable:
                left.append((block, number + 1))
        else:
            left.extend([(target, 0) for target in goes_to(program, block) if variable not in program[target][1]])
    return False


def random_assignment(chance, program):
    """Give an assignment without conflicts, made, sometimes coalesced, and with other locations by chance."""
    assignment = assign(program, chance.randint(0, 8))
    if chance.random() < 0.5:
        assignment = coalesce(program, assignment)
    used = list(dict.fromkeys([location for _, location in assignment]))
    others = dict(zip(used, chance.sample(LOCATIONS[:-1], len(used))))
    return tuple([(variable, others[location]) for variable, location in assignment])


def with_move(chance, code):
    """Give code with one more move, as a line or on an edge, by chance."""
    inputs, blocks = code
    move = tuple(chance.sample(locations_in(code) + (chance.choice(LOCATIONS),), 2))
    at = chance.randrange(len(blocks))
    name, lines, end = blocks[at]
    rows = [place for place, part in enumerate(end) if isinstance(part, tuple)]
    if rows and chance.random() < 0.5:
        row = chance.choice(rows)
        place = chance.randint(0, len(end[row]))
        end = end[:row] + (end[row][:place] + (move,) + end[row][place:],) + end[row + 1:]
    else:
        place = chance.randint(0, len(lines))
        lines = lines[:place] + (("move",) + move,) + lines[place:]
    return (inputs, blocks[:at] + ((name, lines, end),) + blocks[at + 1:])


def has_paper(program, code):
    """Tell whether a program and code have a right paper."""
    try:
        find_paper(program, code)
    except BadPaper:
        return False
    return True


def random_code_for(chance, program, many):
    """Give code with a right paper for a program: made, and then up to so many more moves that do no harm."""
    code = make_code(program, random_assignment(chance, program))
    for _ in range(chance.randint(0, many)):
        other = with_move(chance, code)
        code = other if has_paper(program, other) else code
    return code


def random_words(chance, many):
    """Give a tuple of so many words, most of them small."""
    return tuple([chance.choice((0, 0, 1, 1, 2, 3, -1, 5, 32767, -32768)) for _ in range(many)])


def random_cases(seed, many, most_blocks=5, most_moves=6):
    """Give a list of (program, code with a right paper, inputs, words), the same for the same seed."""
    chance = random.Random(seed)
    found = []
    for _ in range(many):
        program = random_program(chance, most_blocks)
        code = random_code_for(chance, program, most_moves)
        words = random_words(chance, chance.choice((0, 1, 3, 8, 40)))
        found.append((program, code, random_words(chance, len(program[0][1])), words))
    return found
