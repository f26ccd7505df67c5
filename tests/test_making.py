import random
import unittest

from stopsheld.codetext import code_text, parse_code
from stopsheld.colours import assign
from stopsheld.errors import Clash, StopsError
from stopsheld.living import clashes
from stopsheld.machine import run_code
from stopsheld.making import make_code
from stopsheld.papers import check_paper, find_paper, greatest
from stopsheld.reading import parse_program
from stopsheld.running import run
from tests.samples import LOCATIONS, LOOP_TEXT, random_assignment, random_programs, random_words
from tests.test_colours import assignment_of
from tests.test_moves import ordered_by_words

LOOP = parse_program(LOOP_TEXT)
SWAPS = parse_program("block a x y\njump b y x\nblock b u v\nbranch u b v u else c\nblock c\nreturn v")


def code_by_words(program, assignment):
    """Give the code of g1 by its words, read from a text of it."""
    places = dict(assignment)
    parameters = {block[0]: block[1] for block in program}

    def edge(target, arguments):
        moves = ordered_by_words([(places[one], places[other]) for one, other in zip(parameters[target], arguments)])
        return " ".join([target] + [f"{to}={source}" for to, source in moves])

    def line(row):
        location = places[row[1]]
        if row[0] == "op":
            return f"{location} = {row[2]} {places[row[3]]} {places[row[4]]}"
        if row[0] == "const":
            return f"{location} = const {row[2]}"
        return f"print {location}" if row[0] == "print" else f"{location} = read"

    rows = [" ".join(["inputs"] + [places[name] for name in program[0][1]])]
    for name, _, instructions, end in program:
        rows.extend([f"block {name}"] + [line(row) for row in instructions])
        if end[0] == "return":
            rows.append(f"return {places[end[1]]}")
        elif end[0] == "jump":
            rows.append(f"jump {edge(*end[1:])}")
        else:
            rows.append(f"branch {places[end[1]]} {edge(*end[2:4])} else {edge(*end[4:])}")
    return parse_code("\n".join(rows))


class MakeTest(unittest.TestCase):
    def check(self, program, assignment, text):
        pairs = assignment_of(assignment)
        self.assertEqual(code_text(make_code(program, pairs)), text)
        self.assertEqual(pairs, assignment_of(assignment))

    def test_example(self):
        self.check(SWAPS, "x=r0 y=r1 u=r0 v=r1", "inputs r0 r1\nblock a\njump b t=r0 r0=r1 r1=t\nblock b\n"
                   "branch r0 b t=r0 r0=r1 r1=t else c\nblock c\nreturn r1\n")

    def test_loop(self):
        self.check(LOOP, "n=r0 one=r1 k=r0 p=r2 q=r2 l=r0", "inputs r0\nblock a\nr1 = const 1\njump b r2=r1\nblock b\n"
                   "r2 = mul r2 r0\nr0 = sub r0 r1\nbranch r0 b else c\nblock c\nreturn r2\n")
        self.check(LOOP, "n=s15 one=s1 k=r7 p=s2 q=s0 l=s15", "inputs s15\nblock a\ns1 = const 1\njump b r7=s15 s2=s1\n"
                   "block b\ns0 = mul s2 r7\ns15 = sub r7 s1\nbranch s15 b r7=s15 s2=s0 else c\nblock c\nreturn s0\n")

    def test_lines_of_each_kind(self):
        program = parse_program("block a x\ny = const -5\nz = add x y\nw = read\nprint z\nu = sub w x\nv = mul u u\n"
                                "m = less v u\nn = equal m v\nprint n\nreturn m")
        self.check(program, "x=r0 y=r1 z=r2 w=r1 u=s0 v=s1 m=r0 n=s3",
                   "inputs r0\nblock a\nr1 = const -5\nr2 = add r0 r1\nr1 = read\nprint r2\ns0 = sub r1 r0\n"
                   "s1 = mul s0 s0\nr0 = less s1 s0\ns3 = equal r0 s1\nprint s3\nreturn r0\n")

    def test_parameter_that_stays_where_it_is(self):
        self.check(SWAPS, "x=r0 y=r1 u=r1 v=r0", "inputs r0 r1\nblock a\njump b\nblock b\n"
                   "branch r1 b t=r1 r1=r0 r0=t else c\nblock c\nreturn r0\n")

    def test_ring_of_three_and_a_parameter_outside(self):
        program = parse_program("block a x y z\njump b x y z x\nblock b u v w m\nprint m\n"
                                "branch u b v w u u else c\nblock c\nprint w\nreturn v")
        self.check(program, "x=r0 y=r1 z=r2 u=r0 v=r1 w=r2 m=r3",
                   "inputs r0 r1 r2\nblock a\njump b r3=r0\nblock b\nprint r3\n"
                   "branch r0 b r3=r0 r0=r1 r1=r2 r2=r3 else c\nblock c\nprint r2\nreturn r1\n")

    def test_both_sides_of_a_branch_to_one_block(self):
        program = parse_program("block a x y\nbranch x b x y else b y x\nblock b u v\nprint u\nreturn v")
        self.check(program, "x=r0 y=r1 u=r1 v=r0",
                   "inputs r0 r1\nblock a\nbranch r0 b t=r1 r1=r0 r0=t else b\nblock b\nprint r1\nreturn r0\n")

    def test_moves_come_in_the_order_of_the_parameters(self):
        program = parse_program("block a x\njump b x x x\nblock b u v w\nprint u\nprint v\nreturn w")
        self.check(program, "x=r0 u=s1 v=r1 w=s0", "inputs r0\nblock a\njump b s1=r0 r1=s1 s0=r1\nblock b\nprint s1\n"
                   "print r1\nreturn s0\n")

    def test_inputs(self):
        program = parse_program("block a y x z\nreturn y")
        self.check(program, "y=s1 x=r0 z=r3", "inputs s1 r0 r3\nblock a\nreturn s1\n")
        program = parse_program("block a\nx = read\nreturn x")
        self.check(program, "x=s9", "inputs\nblock a\ns9 = read\nreturn s9\n")

    def test_clash(self):
        for program, pairs in ((SWAPS, "x=r0 y=r0 u=r1 v=r2"), (LOOP, "n=r0 one=r0 k=r1 p=r2 q=r3 l=r4")):
            with self.assertRaises(Clash) as caught:
                make_code(program, assignment_of(pairs))
            self.assertIsInstance(caught.exception, StopsError)

    def test_clash_exactly_for_a_conflict(self):
        chance = random.Random(91)
        seen = {True: 0, False: 0}
        for program in random_programs(92, 300):
            assignment = assign(program, 8)
            places = dict(assignment)
            name = chance.choice(list(places))
            places[name] = chance.choice(list(places.values()))
            conflict = any([places[one] == places[other] for one, other in clashes(program)])
            seen[conflict] += 1
            if conflict:
                with self.assertRaises(Clash):
                    make_code(program, tuple(places.items()))
            else:
                self.assertEqual(make_code(program, tuple(places.items())), code_by_words(program, places.items()))
        self.assertGreater(min(seen.values()), 50)


class ReferenceTest(unittest.TestCase):
    def test_programs_by_chance(self):
        chance = random.Random(93)
        for program in random_programs(94, 300, 8):
            assignment = random_assignment(chance, program)
            code = make_code(program, assignment)
            self.assertEqual(code, code_by_words(program, assignment))
            self.assertEqual(parse_code(code_text(code)), code)
            self.assertEqual(code, make_code(program, assignment))
            paper = greatest(program, code)
            check_paper(program, code, paper)
            self.assertEqual(find_paper(program, code), paper)
            for _ in range(3):
                inputs = random_words(chance, len(program[0][1]))
                given = random_words(chance, chance.choice((0, 1, 5, 30)))
                for most in (0, 1, 4, 11, 60):
                    self.assertEqual(run_code(code, inputs, given, most), run(program, inputs, given, most))

    def test_each_alone(self):
        for program in random_programs(95, 60, 8):
            names = [name for block in program for name in block[1]]
            names += [row[1] for block in program for row in block[2] if row[0] != "print"]
            order = [name for name, _ in assign(program, 0)]
            self.assertEqual(sorted(names), sorted(order))
            assignment = tuple(zip(order, LOCATIONS[8:24]))
            code = make_code(program, assignment)
            self.assertEqual(code, code_by_words(program, assignment))
            self.assertEqual(find_paper(program, code), greatest(program, code))

    def test_kinds(self):
        code = make_code(SWAPS, assignment_of("x=r0 y=r1 u=r0 v=r1"))
        block = code[1][1]
        parts = [code, code[0], code[1], block, block[1], block[2], block[2][3], block[2][3][0], block[2][5]]
        self.assertEqual({part.__class__ for part in parts}, {tuple})


if __name__ == "__main__":
    unittest.main()
