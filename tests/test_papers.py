import random
import unittest

from stopsheld.code import location_order, locations_in
from stopsheld.codetext import parse_code
from stopsheld.colours import assign
from stopsheld.errors import BadPaper
from stopsheld.machine import run_code
from stopsheld.making import make_code
from stopsheld.papers import check_paper, find_paper, follow_line, follow_move, greatest
from stopsheld.programs import defined_by, definitions, edges
from stopsheld.reading import parse_program
from stopsheld.running import run
from tests.samples import LOCATIONS, LOOP_TEXT, OPERATIONS, goes_to, has_paper, random_cases
from tests.samples import random_moves, random_words

LOOP = parse_program(LOOP_TEXT)
LOOP_CODE = make_code(LOOP, assign(LOOP, 4))
LOOP_PAPER = ((("r0", "n"),), (("r0", "k"), ("r1", "one"), ("r2", "p")), (("r0", "l"), ("r1", "one"), ("r2", "q")))
SMALL = parse_program("block a x y\nz = add x y\njump b z x\nblock b u v\nprint u\nreturn v")
SMALL_TEXT = "inputs r0 r1\nblock a\nr2 = add r0 r1\njump b r1=r2\nblock b\nprint r1\nreturn r0"
SMALL_PAPER = ((("r0", "x"), ("r1", "y")), (("r0", "x"), ("r0", "v"), ("r1", "z"), ("r1", "u"), ("r2", "z"),
                                           ("r2", "u")))


def facts_of(text):
    """Give the facts that pieces like r0:x tell."""
    return tuple([tuple(piece.split(":")) for piece in text.split()])


def moves_on(end, side):
    """Give the moves on a side of an end of code."""
    return [part for part in end if isinstance(part, tuple)][side]


def moved(facts, move):
    """Give the set of the facts behind a move by the words of q1."""
    return {fact for fact in facts if fact[0] != move[0]} | {(move[0], name) for at, name in facts if at == move[1]}


def defining(facts, location, variable):
    """Give the set of the facts behind a line that defines by the words of q1."""
    return {fact for fact in facts if fact[0] != location and fact[1] != variable} | {(location, variable)}


def entered(facts, parameters, arguments):
    """Give the set of the facts behind the moves of an edge and its parameters by the words of q1."""
    kept = {fact for fact in facts if fact[1] not in parameters}
    return kept | {(at, one) for one, other in zip(parameters, arguments) for at, name in facts if name == other}


def lines_by_words(program, code, facts, block):
    """Give (the list of (line, instruction, facts ahead of it), the facts ahead of the end) of a block."""
    left = iter(program[block][2])
    found = []
    for line in code[1][block][1]:
        instruction = None if line[0] == "move" else next(left)
        found.append((line, instruction, facts))
        if instruction is None:
            facts = moved(facts, line[1:])
        elif defined_by(instruction):
            facts = defining(facts, line[1], defined_by(instruction))
    return found, facts


def edges_by_words(program, code, facts, block):
    """Give (number of the target, arguments, facts behind the moves, facts behind the edge) of the edges of a block."""
    _, ahead = lines_by_words(program, code, facts, block)
    found = []
    for side, target in enumerate(goes_to(program, block)):
        behind = set(ahead)
        for move in moves_on(code[1][block][2], side):
            behind = moved(behind, move)
        end = program[block][3]
        arguments = end[2] if end[0] == "jump" else end[3 + 2 * side]
        found.append((target, arguments, behind, entered(behind, program[target][1], arguments)))
    return found


def greatest_by_words(program, code):
    """Give the greatest paper as a list of sets by the words of q4."""
    every = {(location, name) for location in locations_in(code) for name in definitions(program)}
    paper = [set(zip(code[0], program[0][1]))] + [set(every) for _ in program[1:]]
    missing = True
    while missing:
        missing = False
        for block in range(len(program)):
            for target, _, _, behind in edges_by_words(program, code, paper[block], block):
                missing = missing or bool(paper[target] - behind)
                paper[target] &= behind
    return paper


def in_order(program, facts):
    """Give facts in the order of c11."""
    order = definitions(program)
    return tuple([(at, name) for at in location_order(tuple([at for at, _ in facts])) for name in order
                  if (at, name) in facts])


def alike(row, line):
    """Tell by the words of q2 whether an instruction or end and a line or end of code go together."""
    if row[0] != line[0]:
        return False
    told = {"const": (2,), "op": (2,), "jump": (1,), "branch": (2, 4)}.get(row[0], ())
    return all([row[at] == line[at] for at in told])


def unlike_by_words(program, code):
    """Give the first fault of q3 for which program and code do not go together, or None."""
    if len(code[0]) != len(program[0][1]):
        return None, None, "inputs"
    if [row[0] for row in program] != [row[0] for row in code[1]]:
        return None, None, "blocks"
    for number, (_, lines, end) in enumerate(code[1]):
        steps = [(place, line) for place, line in enumerate(lines) if line[0] != "move"]
        rows = program[number][2]
        wrong = [place for at, (place, line) in enumerate(steps) if at >= len(rows) or not alike(rows[at], line)]
        if wrong:
            return number, wrong[0], "line"
        if len(steps) < len(rows) or not alike(program[number][3], end):
            return number, len(lines), "line"
    return None


def operands(row):
    """Give what a row or line uses apart from the arguments of an end."""
    return {"op": row[3:], "print": row[1:], "return": row[1:], "branch": row[1:2]}.get(row[0], ())


def fault_by_words(program, code, paper):
    """Give the (block, place, reason) with which q3 refuses a paper, or None."""
    fault = unlike_by_words(program, code)
    if fault or len(paper) != len(program):
        return fault or (None, None, "paper")
    for block in range(len(program)):
        if block == 0 and not set(paper[0]) <= set(zip(code[0], program[0][1])):
            return 0, 0, "input"
        rows, ahead = lines_by_words(program, code, set(paper[block]), block)
        rows = rows + [(code[1][block][2], program[block][3], ahead)]
        for number, (line, row, facts) in enumerate(rows):
            if row and not set(zip(operands(line), operands(row))) <= facts:
                return block, number, "operand"
        for target, arguments, moves, behind in edges_by_words(program, code, set(paper[block]), block):
            if not set(arguments) <= {name for _, name in moves} or not set(paper[target]) <= behind:
                return block, len(rows) - 1, "edge"
    return None


def fault_of(call, *arguments):
    """Give the (block, place, reason) of the BadPaper that a call raises, or None."""
    try:
        call(*arguments)
    except BadPaper as error:
        return error.block, error.place, error.reason
    return None


def changed_row(chance, row, places, names):
    """Give a line or end of code of which one part is changed by chance, which may make another kind of it."""
    parts = list(row)
    at = chance.randrange(len(row))
    if isinstance(row[at], tuple):
        parts[at] = random_moves(chance, places)
    elif row[0] == "op" and at == 2:
        parts[at] = chance.choice(OPERATIONS)
    elif row[0] == "const" and at == 2:
        parts[at] = row[2] + chance.choice((0, 1))
    elif at == 0:
        return chance.choice((row, ("read", "r1"), ("print", "r0"), ("return", "r1"), ("jump", names[-1], ())))
    else:
        parts[at] = chance.choice(names if row[at] in names else places)
    return tuple(parts)


def changed_code(chance, code):
    """Give code of which one line, end, move, input or name is changed, taken away, or put in by chance."""
    inputs, blocks = code
    places = locations_in(code)
    names = [name for name, _, _ in blocks]
    at = chance.randrange(len(blocks))
    name, lines, end = blocks[at]
    place = chance.randint(0, len(lines))
    kind = chance.choice(("line", "line", "line", "end", "less", "more", "inputs", "name"))
    if kind == "line" and place < len(lines):
        lines = lines[:place] + (changed_row(chance, lines[place], places, names),) + lines[place + 1:]
    elif kind == "end":
        end = changed_row(chance, end, places, names)
    elif kind == "less":
        lines = lines[:place] + lines[place + 1:]
    elif kind == "more":
        lines = lines[:place] + (chance.choice(lines + (("read", places[0]), ("print", places[0]))),) + lines[place:]
    elif kind == "inputs":
        inputs = tuple(chance.sample(places, min(len(places), chance.choice((len(inputs), len(inputs) + 1)))))
    elif kind == "name" and chance.random() < 0.3:
        return inputs, chance.choice((blocks[:-1], blocks + (("z9", (), ("return", "r0")),), blocks[::-1]))
    blocks = blocks[:at] + ((name, lines, end),) + blocks[at + 1:]
    targets = {block[0] for block in blocks}
    ends = [part for _, _, end in blocks if end[0] in ("jump", "branch") for part in end[1:] if isinstance(part, str)]
    wrong = [row for _, rows, end in blocks for row in rows if row[0] in ("return", "jump")]
    wrong += [end for _, _, end in blocks if end[0] not in ("jump", "branch", "return")]
    wrong += [part for part in ends if part not in targets and part not in LOCATIONS]
    return code if wrong else (inputs, blocks)


def changed_paper(chance, program, code, paper):
    """Give a paper with one fact less, more or exchanged, or with a block less or more, by chance."""
    rows = [list(facts) for facts in paper]
    at = chance.randrange(len(rows))
    kind = chance.choice(("less", "more", "more", "exchanged", "exchanged", "block"))
    fact = (chance.choice(locations_in(code)), chance.choice(definitions(program) or ("x",)))
    if kind == "block":
        return chance.choice((paper[:-1], paper + ((),), paper + paper[-1:], ()))
    if kind != "more" and rows[at]:
        rows[at].remove(chance.choice(rows[at]))
    if kind != "less" and fact not in rows[at]:
        rows[at].append(fact)
    return tuple([in_order(program, facts) for facts in rows])


class FollowTest(unittest.TestCase):
    def move(self, facts, move, expected):
        given = facts_of(facts)
        self.assertEqual(follow_move(given, tuple(move.split("="))), facts_of(expected))
        self.assertEqual(given, facts_of(facts))

    def line(self, facts, line, variable, expected):
        given = facts_of(facts)
        self.assertEqual(follow_line(given, line, variable), facts_of(expected))
        self.assertEqual(given, facts_of(facts))

    def test_move_brings_all_facts_of_its_source(self):
        self.move("r0:x r0:z r1:y", "r1=r0", "r0:x r0:z r1:x r1:z")
        self.move("r0:x r1:y r1:x", "r0=r1", "r0:y r0:x r1:y r1:x")
        self.move("r1:x", "s3=r1", "r1:x s3:x")
        self.move("r1:x r2:x", "t=r2", "r1:x r2:x t:x")

    def test_move_to_itself(self):
        self.move("r0:x r0:z r1:y", "r0=r0", "r0:x r0:z r1:y")
        self.move("r1:y", "r0=r0", "r1:y")

    def test_move_from_a_location_without_facts(self):
        self.move("r0:x r0:z r1:y", "r0=r5", "r1:y")
        self.move("r0:x", "r0=t", "")
        self.move("", "r0=r1", "")

    def test_order_of_locations_then_as_they_came(self):
        self.move("t:b t:a", "s10=t", "s10:b s10:a t:b t:a")
        self.move("s9:c t:b t:a", "s10=t", "s9:c s10:b s10:a t:b t:a")
        self.move("t:b s10:c r1:a r0:d r1:e", "r2=s10", "r0:d r1:a r1:e r2:c s10:c t:b")

    def test_line_that_defines(self):
        self.line("r0:x r1:y", ("op", "r2", "add", "r0", "r1"), "z", "r0:x r1:y r2:z")
        self.line("r0:x r0:y r1:y", ("const", "r0", 5), "z", "r0:z r1:y")
        self.line("r0:x r1:y", ("read", "s0"), "z", "r0:x r1:y s0:z")
        self.line("", ("read", "t"), "z", "t:z")

    def test_line_that_defines_what_was_elsewhere(self):
        # In a loop the same variable comes again: what has its former value is no longer its place.
        self.line("r0:x r1:z r1:y s2:z", ("const", "r0", 5), "z", "r0:z r1:y")
        self.line("r0:z r0:x r1:y", ("op", "r0", "add", "r0", "r0"), "z", "r0:z r1:y")

    def test_line_that_defines_none(self):
        self.line("r0:x r1:y r1:x", ("print", "r0"), None, "r0:x r1:y r1:x")
        self.line("r1:y r1:x r0:x", ("print", "r0"), None, "r0:x r1:y r1:x")
        self.line("r0:x r1:y", ("move", "r1", "r0"), None, "r0:x r1:x")

    def test_by_chance(self):
        chance = random.Random(101)
        names = "abcd"
        for _ in range(500):
            places = chance.sample(LOCATIONS, 5)
            facts = [(at, name) for at in places for name in names if chance.random() < 0.4]
            chance.shuffle(facts)
            move = (chance.choice(places), chance.choice(places))
            found = follow_move(tuple(facts), move)
            self.assertEqual(set(found), moved(facts, move))
            self.check_order(found, [fact for fact in facts if fact[0] != move[0]], move, facts)
            found = follow_line(tuple(facts), ("read", places[0]), "b")
            self.assertEqual(set(found), defining(facts, places[0], "b"))
            self.assertEqual(len(found), len(set(found)))

    def check_order(self, found, kept, move, facts):
        came = kept + [(move[0], name) for at, name in facts if at == move[1]]
        self.assertEqual(found, tuple(sorted(came, key=lambda fact: LOCATIONS.index(fact[0]))))

    def test_kinds(self):
        for found in (follow_move(facts_of("r0:x"), ("r1", "r0")), follow_line(facts_of("r0:x"), ("read", "r1"), "y")):
            self.assertEqual({part.__class__ for part in found + (found,)}, {tuple})


class GreatestTest(unittest.TestCase):
    def test_loop(self):
        paper = greatest(LOOP, LOOP_CODE)
        self.assertEqual(paper[0], LOOP_PAPER[0])
        self.assertEqual(paper, tuple([in_order(LOOP, facts) for facts in greatest_by_words(LOOP, LOOP_CODE)]))
        for facts, some in zip(paper, LOOP_PAPER):
            self.assertLessEqual(set(some), set(facts))

    def test_small(self):
        self.assertEqual(greatest(SMALL, parse_code(SMALL_TEXT)), SMALL_PAPER)
        self.assertEqual(find_paper(SMALL, parse_code(SMALL_TEXT)), SMALL_PAPER)

    def test_entry_has_its_inputs_in_the_order_of_locations(self):
        program = parse_program("block a x y z\nreturn x")
        code = parse_code("inputs s1 t r3\nblock a\nreturn s1")
        self.assertEqual(greatest(program, code), (facts_of("r3:z s1:x t:y"),))

    def test_block_that_nothing_new_reaches_in_a_loop_has_all_facts_of_the_way_to_it(self):
        program = parse_program("block a x\njump b\nblock b\njump b")
        code = parse_code("inputs r0\nblock a\njump b r1=r0\nblock b\njump b r0=r1 t=r1")
        self.assertEqual(greatest(program, code), (facts_of("r0:x"), facts_of("r0:x r1:x")))

    def test_argument_that_occurs_twice(self):
        program = parse_program("block a x y\njump b x x y\nblock b u v w\nprint w\nprint u\nreturn v")
        code = parse_code("inputs r0 r1\nblock a\njump b r2=r0\nblock b\nprint r1\nprint r2\nreturn r0")
        self.assertEqual(greatest(program, code)[1], facts_of("r0:x r0:u r0:v r1:y r1:w r2:x r2:u r2:v"))

    def test_variable_that_is_argument_and_parameter(self):
        program = parse_program("block a x y\njump b x y\nblock b u v\nbranch u b v u else c\nblock c\nreturn v")
        text = "inputs r0 r1\nblock a\njump b\nblock b\nbranch r0 b else c\nblock c\nreturn r1"
        swapped = parse_code(text.replace("r0 b", "r0 b t=r0 r0=r1 r1=t"))
        self.assertEqual(find_paper(program, swapped)[1], facts_of("r0:u r1:v"))
        # The parameters get the values of one another all at once, wherever these are.
        self.assertEqual(greatest(program, parse_code(text))[1], facts_of("r0:x r1:y"))
        self.assertEqual(fault_of(find_paper, program, parse_code(text)), (1, 0, "operand"))
        fixed = parse_program("block a x y\njump b x y\nblock b u v\nbranch u b u u else c\nblock c\nreturn v")
        self.assertEqual(greatest(fixed, parse_code(text))[1], facts_of("r0:x r0:u r1:y"))
        copied = parse_code(text.replace("r0 b", "r0 b r1=r0"))
        self.assertEqual(find_paper(fixed, copied)[1], facts_of("r0:x r0:u r1:v"))

    def test_needs_no_right_paper_but_that_they_go_together(self):
        code = parse_code("inputs r0 r1\nblock a\nr2 = add r5 r1\njump b\nblock b\nprint s1\nreturn s2")
        self.assertEqual(greatest(SMALL, code), ((("r0", "x"), ("r1", "y")), facts_of("r0:x r0:v r1:y r2:z r2:u")))
        self.assertEqual(fault_of(find_paper, SMALL, code), (0, 0, "operand"))

    def test_refusals(self):
        for old, new, fault in (("inputs r0 r1", "inputs r0", (None, None, "inputs")),
                                ("block b", "block c", (None, None, "blocks")),
                                ("r2 = add", "r2 = sub", (0, 0, "line"))):
            code = parse_code(SMALL_TEXT.replace(old, new).replace("jump b", "jump c" if "c" in new else "jump b"))
            self.assertEqual(fault_of(greatest, SMALL, code), fault)
            self.assertEqual(fault_of(find_paper, SMALL, code), fault)
            self.assertEqual(fault_of(check_paper, SMALL, code, SMALL_PAPER), fault)

    def test_new_each_time_and_tuples(self):
        first, second = greatest(LOOP, LOOP_CODE), greatest(LOOP, LOOP_CODE)
        self.assertEqual(first, second)
        self.assertEqual({part.__class__ for part in (first,) + first + first[1]}, {tuple})

    def test_by_chance(self):
        for program, code, _, _ in random_cases(102, 120, 8, 12):
            paper = tuple([in_order(program, facts) for facts in greatest_by_words(program, code)])
            self.assertEqual(greatest(program, code), paper)
            self.assertEqual(find_paper(program, code), paper)


class RefusalTest(unittest.TestCase):
    def code(self, old="", new=""):
        self.assertIn(old, SMALL_TEXT)
        return parse_code(SMALL_TEXT.replace(old, new))

    def refuse(self, fault, code, paper=SMALL_PAPER):
        self.assertEqual(fault_of(check_paper, SMALL, code, paper), fault)
        self.assertEqual(fault_by_words(SMALL, code, paper), fault)

    def test_right_ones(self):
        for paper in (SMALL_PAPER, (SMALL_PAPER[0], facts_of("r0:v r1:u"))):
            self.refuse(None, self.code(), paper)
            self.assertIsNone(check_paper(SMALL, self.code(), paper))

    def test_inputs(self):
        self.refuse((None, None, "inputs"), self.code("inputs r0 r1", "inputs r0"))
        self.refuse((None, None, "inputs"), self.code("inputs r0 r1", "inputs r0 r1 r3"))
        self.refuse((None, None, "inputs"), self.code("inputs r0 r1", "inputs"), ())

    def test_blocks(self):
        other = "inputs r0 r1\nblock a\nr2 = add r0 r1\njump c r1=r2\nblock c\nprint r1\nreturn r0"
        self.refuse((None, None, "blocks"), parse_code(other))
        self.refuse((None, None, "blocks"), parse_code(SMALL_TEXT + "\nblock c\nreturn r0"))
        self.refuse((None, None, "blocks"), parse_code("inputs r0 r1\nblock a\nr2 = add r0 r1\nreturn r0"))
        code = parse_code("inputs r0 r1\nblock b\nprint r1\nreturn r0\nblock a\nprint r1\nreturn r0")
        self.refuse((None, None, "blocks"), code)

    def test_line_of_another_kind_word_operation_or_target(self):
        self.refuse((0, 0, "line"), self.code("r2 = add r0 r1", "r2 = sub r0 r1"))
        self.refuse((0, 0, "line"), self.code("r2 = add r0 r1", "r2 = read"))
        self.refuse((1, 0, "line"), self.code("print r1", "r1 = const 0"))
        self.refuse((1, 1, "line"), self.code("return r0", "jump b"))
        self.refuse((0, 1, "line"), self.code("jump b r1=r2", "return r0"))
        self.refuse((0, 1, "line"), self.code("jump b r1=r2", "branch r0 b else b"))
        constant = parse_program("block a\nx = const 5\nbranch x b else c\nblock b\nreturn x\nblock c\nreturn x")
        text = "inputs\nblock a\nr0 = const 5\nbranch r0 b else c\nblock b\nreturn r0\nblock c\nreturn r0"
        for old, new, fault in (("5", "5", None), ("5", "4", (0, 0, "line")), ("b else c", "c else b", (0, 1, "line")),
                                ("b else c", "b else b", (0, 1, "line")), ("b else c", "c else c", (0, 1, "line"))):
            self.assertEqual(fault_of(find_paper, constant, parse_code(text.replace(old, new))), fault)

    def test_line_too_many_and_one_too_few(self):
        self.refuse((1, 1, "line"), self.code("print r1", "print r1\nprint r1"))
        self.refuse((1, 1, "line"), self.code("print r1", "print r1\nr5 = read\nprint r1"))
        self.refuse((1, 0, "line"), self.code("print r1\n", ""))
        self.refuse((0, 0, "line"), self.code("r2 = add r0 r1\n", ""))
        self.refuse((0, 1, "line"), self.code("r2 = add r0 r1\n", "r2 = move r0\n"))
        self.refuse((0, 0, "line"), self.code("r2 = add r0 r1\n", "print r0\n"))

    def test_lines_are_counted_with_moves(self):
        self.refuse((0, 2, "line"), self.code("r2 = add", "r3 = move r0\nr3 = move r3\nr2 = sub"))
        self.refuse((1, 3, "line"), self.code("print r1", "r3 = move r1\nprint r3\nr3 = move r0\nprint r3"))
        self.refuse((1, 1, "operand"), self.code("print r1", "r1 = move r5\nprint r1"))

    def test_first_line_comes_first(self):
        self.refuse((0, 0, "line"), self.code("r2 = add r0 r1\njump b r1=r2", "print r0\nreturn r0"))
        self.refuse((0, 1, "line"), self.code("jump b r1=r2\nblock b\nprint r1", "return r0\nblock b\nr1 = read"))

    def test_paper_of_another_number_of_blocks(self):
        for paper in ((), SMALL_PAPER[:1], SMALL_PAPER + ((),)):
            self.refuse((None, None, "paper"), self.code(), paper)
            self.refuse((1, 0, "line"), self.code("print r1", "r1 = read"), paper)
            self.refuse((None, None, "inputs"), self.code("inputs r0 r1", "inputs r0"), paper)
            self.refuse((None, None, "paper"), self.code("add r0 r1", "add r5 r1"), paper)

    def test_input(self):
        for facts in ("r0:y r1:x", "r0:x r1:y r2:y", "r0:x r0:y", "r0:z r1:y", "t:x"):
            self.refuse((0, 0, "input"), self.code(), (facts_of(facts), SMALL_PAPER[1]))
        self.refuse((0, 0, "input"), self.code("add r0 r1", "add r5 r1"), (facts_of("r0:y"), ()))

    def test_fewer_facts_at_the_entry(self):
        self.refuse((0, 0, "operand"), self.code(), (facts_of("r0:x"), SMALL_PAPER[1]))
        self.refuse((0, 0, "operand"), self.code(), ((), SMALL_PAPER[1]))

    def test_operand(self):
        self.refuse((0, 0, "operand"), self.code("add r0 r1", "add r1 r0"))
        self.refuse((0, 0, "operand"), self.code("add r0 r1", "add r0 r0"))
        self.refuse((1, 0, "operand"), self.code("print r1", "print r0"))
        self.refuse((1, 1, "operand"), self.code("return r0", "return r1"))
        self.refuse((1, 0, "operand"), self.code(), (SMALL_PAPER[0], facts_of("r0:v r2:u")))
        self.refuse((1, 1, "operand"), self.code(), (SMALL_PAPER[0], facts_of("r1:u")))
        self.refuse((1, 2, "operand"), self.code("print r1", "print r1\nr0 = move r1"))

    def test_operand_of_a_branch(self):
        program = parse_program("block a x y\nbranch x b else b\nblock b\nreturn y")
        code = parse_code("inputs r0 r1\nblock a\nbranch r1 b else b\nblock b\nreturn r1")
        self.assertEqual(fault_of(find_paper, program, code), (0, 0, "operand"))
        code = parse_code("inputs r0 r1\nblock a\nbranch r0 b else b r1=r0\nblock b\nreturn r1")
        self.assertEqual(fault_of(find_paper, program, code), (1, 0, "operand"))

    def test_edge(self):
        self.refuse((0, 1, "edge"), self.code(), (SMALL_PAPER[0], facts_of("r0:v r1:u r2:v")))
        self.refuse((0, 1, "edge"), self.code(), (SMALL_PAPER[0], facts_of("r0:v r1:u t:z")))
        # y is there no longer, since r1 was written.
        self.refuse((0, 1, "edge"), self.code(), (SMALL_PAPER[0], facts_of("r0:v r1:u r1:y")))

    def test_each_argument_needs_a_fact(self):
        # w is an argument of the edge and not used behind it: it must be somewhere all the same.
        program = parse_program("block a x\nw = read\njump b w\nblock b u\nreturn x")
        code = parse_code("inputs r0\nblock a\nr1 = read\njump b\nblock b\nreturn r0")
        self.assertIsNone(fault_of(find_paper, program, code))
        code = parse_code("inputs r0\nblock a\nr1 = read\njump b r1=r0\nblock b\nreturn r0")
        self.assertEqual(fault_of(find_paper, program, code), (0, 1, "edge"))
        code = parse_code("inputs r0\nblock a\nr1 = read\nr1 = move r0\njump b\nblock b\nreturn r0")
        self.assertEqual(fault_of(find_paper, program, code), (0, 2, "edge"))
        code = parse_code("inputs r0\nblock a\nr1 = read\njump b s0=r1 r1=r0\nblock b\nreturn r0")
        self.assertIsNone(fault_of(find_paper, program, code))

    def test_edge_of_a_block_comes_ahead_of_lines_of_the_next_one(self):
        self.refuse((0, 1, "edge"), self.code("print r1", "print r5"), (SMALL_PAPER[0], facts_of("r2:v")))
        self.refuse((1, 0, "operand"), self.code("print r1", "print r5"))

    def test_operand_of_an_end_comes_ahead_of_its_edges(self):
        program = parse_program("block a x y\nbranch x b y else b x\nblock b u\nreturn u")
        code = parse_code("inputs r0 r1\nblock a\nbranch r1 b else b\nblock b\nreturn r0")
        paper = (facts_of("r0:x r1:y"), facts_of("r0:u"))
        self.assertEqual(fault_of(check_paper, program, code, paper), (0, 0, "operand"))
        code = parse_code("inputs r0 r1\nblock a\nbranch r0 b else b\nblock b\nreturn r0")
        self.assertEqual(fault_of(check_paper, program, code, paper), (0, 0, "edge"))

    def test_moves_put_in_that_do_no_harm(self):
        for old, new in (("r2 = add", "r7 = move r0\nr2 = add"), ("jump b r1=r2", "jump b r1=r1 t=r0 r1=r2 r3=r5"),
                         ("print r1", "r1 = move r1\nprint r1\nr1 = move r5\nr1 = move r0")):
            self.refuse(None, self.code(old, new), (SMALL_PAPER[0], facts_of("r0:v r1:u")))
            self.assertTrue(has_paper(SMALL, self.code(old, new)))

    def test_changed_papers_by_chance(self):
        chance = random.Random(103)
        reasons = {}
        for program, code, _, _ in random_cases(104, 150):
            paper = find_paper(program, code)
            for many in (1, 1, 1, 1, 2, 5):
                other = paper
                for _ in range(many):
                    other = changed_paper(chance, program, code, other or paper)
                fault = fault_by_words(program, code, other)
                self.assertEqual(fault_of(check_paper, program, code, other), fault)
                reason = fault and fault[2]
                reasons[reason] = reasons.get(reason, 0) + 1
                if not fault:
                    self.assertTrue(all([set(some) <= set(facts) for some, facts in zip(other, paper)]))
        self.assertEqual(len(reasons), 5, reasons)
        self.assertGreater(min(reasons.values()), 20, reasons)

    def test_changed_code_by_chance(self):
        chance = random.Random(105)
        reasons = {}
        for program, code, _, _ in random_cases(106, 120):
            paper = find_paper(program, code)
            for _ in range(12):
                other = changed_code(chance, code)
                fault = fault_by_words(program, other, paper)
                self.assertEqual(fault_of(check_paper, program, other, paper), fault)
                unlike = unlike_by_words(program, other)
                self.assertEqual(fault_of(greatest, program, other), unlike)
                if not unlike:
                    found = greatest(program, other)
                    self.assertEqual(found, tuple([in_order(program, facts)
                                                   for facts in greatest_by_words(program, other)]))
                    fault = fault_by_words(program, other, found)
                self.assertEqual(fault_of(find_paper, program, other), fault)
                reason = fault and fault[2]
                reasons[reason] = reasons.get(reason, 0) + 1
        self.assertEqual(len(reasons), 6, reasons)
        self.assertGreater(min(reasons.values()), 5, reasons)


class RightPapersTest(unittest.TestCase):
    def test_right_papers_have_facts_of_the_greatest_one_alone(self):
        chance = random.Random(107)
        right = 0
        for program, code, _, _ in random_cases(108, 60):
            paper = find_paper(program, code)
            for _ in range(6):
                some = [{fact for fact in facts if chance.random() < 0.9} for facts in paper]
                for _ in range(30):
                    for block in range(len(program)):
                        for target, _, _, behind in edges_by_words(program, code, some[block], block):
                            some[target] &= behind
                other = tuple([in_order(program, facts) for facts in some])
                fault = fault_by_words(program, code, other)
                self.assertEqual(fault_of(check_paper, program, code, other), fault)
                right += not fault and other != paper
                # With one fact that the greatest one does not have, no paper is right.
                block = chance.randrange(len(program))
                more = [(at, name) for at in locations_in(code) for name in definitions(program)
                        if (at, name) not in paper[block]]
                if more:
                    rows = list(other)
                    rows[block] = in_order(program, rows[block] + (chance.choice(more),))
                    self.assertIsNotNone(fault_of(check_paper, program, code, tuple(rows)))
        self.assertGreater(right, 50)

    def test_program_and_code_go_in_lockstep(self):
        chance = random.Random(109)
        for program, code, _, _ in random_cases(110, 150, 8, 10):
            self.assertEqual(len(edges(program)), sum([len(goes_to(program, at)) for at in range(len(program))]))
            for _ in range(4):
                inputs = random_words(chance, len(program[0][1]))
                given = random_words(chance, chance.choice((0, 1, 5, 30)))
                for most in (0, 1, 2, 5, 9, 40):
                    self.assertEqual(run_code(code, inputs, given, most), run(program, inputs, given, most))

    def test_changed_code_with_a_right_paper_goes_in_lockstep_too(self):
        chance = random.Random(111)
        many = 0
        for program, code, _, _ in random_cases(112, 150):
            for _ in range(8):
                other = changed_code(chance, code)
                if other == code or not has_paper(program, other):
                    continue
                many += 1
                inputs = random_words(chance, len(program[0][1]))
                given = random_words(chance, 6)
                for most in (1, 4, 30):
                    self.assertEqual(run_code(other, inputs, given, most), run(program, inputs, given, most))
        self.assertGreater(many, 20)


if __name__ == "__main__":
    unittest.main()
