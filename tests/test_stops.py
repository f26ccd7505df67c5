import random
import unittest

from stopsheld.codetext import parse_code
from stopsheld.living import live_at, live_into
from stopsheld.machine import first, is_step, tick
from stopsheld.papers import find_paper
from stopsheld.programs import definitions
from stopsheld.reading import parse_program
from stopsheld.running import trace
from stopsheld.stops import facts_at, point_of, told_at
from tests.samples import LOCATIONS, goes_to, random_cases, random_words
from tests.test_papers import facts_of, in_order, lines_by_words, moved, moves_on

PROGRAM = parse_program("block a x y\nz = add x y\njump b y x\nblock b u v\nprint u\nw = sub v z\n"
                        "branch w b v w else c\nblock c\nreturn z")
CODE = parse_code("inputs r0 r1\nblock a\ns0 = move r0\nr2 = add s0 r1\nt = move r2\njump b t=r0 r0=r1 r1=t\nblock b\n"
                  "r3 = move r1\nprint r0\nr1 = sub r3 r2\nr7 = move r1\nbranch r7 b r0=r3 t=r0 else c\nblock c\n"
                  "return r2")
PAPER = find_paper(PROGRAM, CODE)


def all_places(code):
    """Give all places of code."""
    found = []
    for block, (_, lines, end) in enumerate(code[1]):
        found.extend([(block, number) for number in range(len(lines) + 1)])
        rows = [part for part in end if isinstance(part, tuple)]
        found.extend([(block, len(lines), side, at) for side, row in enumerate(rows) for at in range(len(row))])
    return found


def facts_by_words(program, code, paper, place):
    """Give the set of the facts at a place by the words of s2."""
    rows, ahead = lines_by_words(program, code, set(paper[place[0]]), place[0])
    facts = (rows + [(None, None, ahead)])[place[1]][2]
    if len(place) == 4:
        for move in moves_on(code[1][place[0]][2], place[2])[:place[3]]:
            facts = moved(facts, move)
    return facts


def told_by_words(program, facts):
    """Give the told pairs of facts by the words of s2."""
    found = []
    for name in definitions(program):
        places = [location for location in LOCATIONS if (location, name) in facts]
        found.extend([(name, places[0])] if places else [])
    return tuple(found)


def point_by_words(code, place):
    """Give the point of a place by the words of s1."""
    lines = code[1][place[0]][1]
    many = len(lines) if len(place) == 4 else place[1]
    return place[0], sum([line[0] != "move" for line in lines[:many]])


def lockstep(program, code, inputs, given, most):
    """Give (state of the machine, state of the program's run) at each of so many ticks.

    Amid an edge the program's state is that at which its end is reached; behind a return there is none.
    """
    state = first(code, inputs)
    states = trace(program, inputs, given, most)
    steps, found = 0, []
    while state is not None and state[0] is not None and len(found) < most:
        found.append((state, states[steps - 1 if len(state[0]) == 4 else steps]))
        steps += is_step(code, state[0])
        state = tick(code, state, given)
    return found


class PointTest(unittest.TestCase):
    def test_places_ahead_of_lines_with_moves_between_them(self):
        self.assertEqual([point_of(CODE, (0, number)) for number in range(4)], [(0, 0), (0, 0), (0, 1), (0, 1)])
        self.assertEqual([point_of(CODE, (1, number)) for number in range(5)], [(1, 0), (1, 0), (1, 1), (1, 2), (1, 2)])
        self.assertEqual(point_of(CODE, (2, 0)), (2, 0))

    def test_places_amid_edges(self):
        self.assertEqual([point_of(CODE, (0, 3, 0, number)) for number in range(3)], [(0, 1)] * 3)
        self.assertEqual([point_of(CODE, (1, 4, 0, number)) for number in range(2)], [(1, 2)] * 2)

    def test_by_chance(self):
        for _, code, _, _ in random_cases(121, 80, 8):
            for place in all_places(code):
                self.assertEqual(point_of(code, place), point_by_words(code, place))


class FactsTest(unittest.TestCase):
    def check(self, place, text):
        self.assertEqual(facts_at(PROGRAM, CODE, PAPER, place), facts_of(text))

    def test_ahead_of_lines_and_ends(self):
        self.check((0, 0), "r0:x r1:y")
        self.check((0, 1), "r0:x r1:y s0:x")
        self.check((0, 2), "r0:x r1:y r2:z s0:x")
        self.check((0, 3), "r0:x r1:y r2:z s0:x t:z")
        self.check((1, 0), "r0:u r1:v r2:z s0:x")
        self.check((1, 1), "r0:u r1:v r2:z r3:v s0:x")
        self.check((1, 4), "r0:u r1:w r2:z r3:v r7:w s0:x")

    def test_amid_edges(self):
        self.check((0, 3, 0, 0), "r0:x r1:y r2:z s0:x t:z")
        self.check((0, 3, 0, 1), "r0:x r1:y r2:z s0:x t:x")
        self.check((0, 3, 0, 2), "r0:y r1:y r2:z s0:x t:x")
        self.check((1, 4, 0, 0), "r0:u r1:w r2:z r3:v r7:w s0:x")
        self.check((1, 4, 0, 1), "r0:v r1:w r2:z r3:v r7:w s0:x")

    def test_by_the_paper_that_is_given(self):
        paper = (facts_of("r0:x r1:y"), facts_of("r0:u r1:v r2:z"), facts_of("r2:z"))
        self.assertEqual(facts_at(PROGRAM, CODE, paper, (1, 1)), facts_of("r0:u r1:v r2:z r3:v"))
        self.assertEqual(facts_at(PROGRAM, CODE, paper, (2, 0)), facts_of("r2:z"))
        self.assertEqual(told_at(PROGRAM, CODE, paper, (1, 0)), (("z", "r2"), ("u", "r0"), ("v", "r1")))

    def test_in_the_order_of_locations_then_of_definition(self):
        program = parse_program("block a x y\njump b y x x\nblock b w u v\nprint w\nprint u\nreturn v")
        code = parse_code("inputs s9 s10\nblock a\nr0 = move s10\njump b t=s9\nblock b\nprint r0\nprint t\nreturn s9")
        paper = find_paper(program, code)
        self.assertEqual(facts_at(program, code, paper, (1, 1)),
                         facts_of("r0:y r0:w s9:x s9:u s9:v s10:y s10:w t:x t:u t:v"))
        backwards = tuple([facts[::-1] for facts in paper])
        self.assertEqual(facts_at(program, code, backwards, (1, 1)), facts_at(program, code, paper, (1, 1)))

    def test_kinds(self):
        for found in (facts_at(PROGRAM, CODE, PAPER, (1, 1)), told_at(PROGRAM, CODE, PAPER, (1, 1))):
            self.assertEqual({part.__class__ for part in found + (found,)}, {tuple})

    def test_by_chance(self):
        for program, code, _, _ in random_cases(122, 80, 8):
            paper = find_paper(program, code)
            for place in all_places(code):
                facts = facts_by_words(program, code, paper, place)
                self.assertEqual(facts_at(program, code, paper, place), in_order(program, facts))
                self.assertEqual(told_at(program, code, paper, place), told_by_words(program, facts))


class ToldTest(unittest.TestCase):
    def check(self, place, text):
        self.assertEqual(told_at(PROGRAM, CODE, PAPER, place), tuple([pair[::-1] for pair in facts_of(text)]))

    def test_first_location_in_order(self):
        self.check((0, 0), "r0:x r1:y")
        self.check((0, 1), "r0:x r1:y")
        self.check((0, 3), "r0:x r1:y r2:z")
        self.check((1, 1), "s0:x r2:z r0:u r1:v")

    def test_amid_edges(self):
        self.check((0, 3, 0, 1), "r0:x r1:y r2:z")
        self.check((0, 3, 0, 2), "s0:x r0:y r2:z")
        self.check((1, 4, 0, 1), "s0:x r2:z r0:v r1:w")

    def test_registers_ahead_of_slots_by_number_and_the_scratch_last(self):
        program = parse_program("block a x y\nprint x\nreturn y")
        code = parse_code("inputs t s10\nblock a\ns9 = move s10\ns0 = move t\nprint t\nr7 = move s9\nreturn s10")
        paper = find_paper(program, code)
        self.assertEqual([told_at(program, code, paper, (0, number)) for number in range(5)],
                         [(("x", "t"), ("y", "s10")), (("x", "t"), ("y", "s9")), (("x", "s0"), ("y", "s9")),
                          (("x", "s0"), ("y", "s9")), (("x", "s0"), ("y", "r7"))])

    def test_nothing_is_told(self):
        program = parse_program("block a\nx = read\nreturn x")
        code = parse_code("inputs\nblock a\nr0 = read\nreturn r0")
        self.assertEqual(told_at(program, code, find_paper(program, code), (0, 0)), ())
        self.assertEqual(facts_at(program, code, find_paper(program, code), (0, 0)), ())


class RunsTest(unittest.TestCase):
    def test_told_variables_have_their_values_and_live_ones_are_told(self):
        chance = random.Random(123)
        amid, stopped, told_in_all = 0, 0, 0
        for program, code, _, _ in random_cases(124, 100, 8, 10):
            paper = find_paper(program, code)
            needed = {place: set(self.needed(program, code, place)) for place in all_places(code)}
            for _ in range(2):
                inputs = random_words(chance, len(program[0][1]))
                given = random_words(chance, chance.choice((0, 2, 40)))
                for state, behind in lockstep(program, code, inputs, given, 60):
                    place, words, values = state[0], dict(state[1]), dict(behind[1])
                    self.assertEqual(point_of(code, place), behind[0])
                    self.assertEqual(state[2:], behind[2:])
                    told = told_at(program, code, paper, place)
                    self.assertEqual([words[location] for _, location in told], [values[name] for name, _ in told])
                    self.assertLessEqual(needed[place], {name for name, _ in told})
                    amid += len(place) == 4
                    stopped += len(place) == 2
                    told_in_all += len(told)
        self.assertGreater(min(amid, stopped, told_in_all), 500, (amid, stopped, told_in_all))

    def needed(self, program, code, place):
        if len(place) == 4:
            return live_into(program, goes_to(program, place[0])[place[2]])
        return live_at(program, point_of(code, place))

    def test_all_that_are_live_at_the_point_of_each_place_are_told(self):
        for program, code, _, _ in random_cases(125, 50, 8, 10):
            paper = find_paper(program, code)
            for place in all_places(code):
                told = {name for name, _ in told_at(program, code, paper, place)}
                self.assertLessEqual(set(self.needed(program, code, place)), told)


if __name__ == "__main__":
    unittest.main()
