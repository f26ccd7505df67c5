import unittest

from stopsheld.living import clashes, definition_sets, live_at, live_into, pressure
from stopsheld.programs import defined_by, definitions
from stopsheld.reading import parse_program
from tests.samples import LOOP_TEXT, is_live, random_programs

LOOP = parse_program(LOOP_TEXT)
# x is live all around the loop though no block of it uses x, and m is dead as soon as it is defined.
AROUND = parse_program("""block a x y
jump b y
block b i
c = read
m = mul i i
branch c d else e
block d
j = sub i c
jump b j
block e
print x
return i""")
STRAIGHT = parse_program("block a x y\nz = add x y\nprint x\nw = add z z\nreturn w")


def points_of(program):
    """Give all points of a program."""
    return [(block, number) for block in range(len(program)) for number in range(len(program[block][2]) + 1)]


def sets_by_words(program):
    """Give the definition sets by the words of v2."""
    found = []
    for block, (_, parameters, instructions, _) in enumerate(program):
        found.append(tuple([name for name in definitions(program)
                            if name in parameters or is_live(program, (block, 0), name)]))
        for number, row in enumerate(instructions):
            if defined_by(row):
                found.append(tuple([name for name in definitions(program)
                                    if name == defined_by(row) or is_live(program, (block, number + 1), name)]))
    return tuple(found)


class LiveTest(unittest.TestCase):
    def check(self, program, rows):
        self.assertEqual([live_at(program, point) for point in points_of(program)], rows)

    def test_straight(self):
        self.check(STRAIGHT, [("x", "y"), ("x", "z"), ("z",), ("w",)])

    def test_loop(self):
        self.check(LOOP, [("n",), ("n", "one"), ("one", "k", "p"), ("one", "k", "q"), ("one", "q", "l"), ("q",)])
        self.assertEqual([live_into(LOOP, block) for block in range(3)], [(), ("one",), ("q",)])

    def test_around_a_loop(self):
        self.check(AROUND, [("x", "y"), ("x", "i"), ("x", "i", "c"), ("x", "i", "c"), ("x", "i", "c"), ("x", "j"),
                            ("x", "i"), ("i",)])
        self.assertEqual([live_into(AROUND, block) for block in range(4)], [(), ("x",), ("x", "i", "c"), ("x", "i")])

    def test_argument_is_used_by_the_end_on_either_side(self):
        program = parse_program("block a x y z\nbranch x b y else c z\nblock b u\nreturn u\nblock c v\nreturn x")
        self.check(program, [("x", "y", "z"), ("u",), ("x",)])
        self.assertEqual([live_into(program, block) for block in range(3)], [(), (), ("x",)])

    def test_argument_for_a_parameter_that_nobody_uses(self):
        program = parse_program("block a x y\njump b y\nblock b u\nreturn x")
        self.check(program, [("x", "y"), ("x",)])

    def test_parameter_is_defined_as_its_block_is_entered(self):
        program = parse_program("block a x\njump b x\nblock b u\nw = const 1\nbranch w b w else c\nblock c\nreturn u")
        self.check(program, [("x",), ("u",), ("u", "w"), ("u",)])
        self.assertEqual([live_into(program, block) for block in range(3)], [(), (), ("u",)])

    def test_use_and_definition_in_one_loop(self):
        program = parse_program("block a x\njump b\nblock b\ny = add x x\nprint y\njump b")
        self.check(program, [("x",), ("x",), ("x", "y"), ("x",)])

    def test_endless_loop_without_uses(self):
        program = parse_program("block a x\ny = read\njump b\nblock b\nz = read\njump b")
        self.check(program, [(), (), (), ()])
        self.assertEqual(definition_sets(program), (("x",), ("y",), (), ("z",)))
        self.assertEqual((clashes(program), pressure(program)), ((), 1))

    def test_definition_order_is_told_not_that_of_uses(self):
        text = "block a z y x\nbranch x c else b\nblock b\nprint y\nreturn z\nblock c\nw = add y z\nreturn w"
        program = parse_program(text)
        self.check(program, [("z", "y", "x"), ("z", "y"), ("z",), ("z", "y"), ("w",)])

    def test_programs_by_chance(self):
        for program in random_programs(41, 250, 8):
            order = definitions(program)
            for point in points_of(program):
                names = tuple([name for name in order if is_live(program, point, name)])
                self.assertEqual(live_at(program, point), names)
            for block, row in enumerate(program):
                self.assertEqual(live_into(program, block), tuple(
                    [name for name in order if name not in row[1] and is_live(program, (block, 0), name)]))

    def test_tuples(self):
        self.assertIs(live_at(LOOP, (0, 0)).__class__, tuple)
        self.assertIs(live_into(LOOP, 0).__class__, tuple)


class DefinitionSetsTest(unittest.TestCase):
    def test_straight(self):
        self.assertEqual(definition_sets(STRAIGHT), (("x", "y"), ("x", "z"), ("w",)))

    def test_loop(self):
        self.assertEqual(definition_sets(LOOP), (("n",), ("n", "one"), ("one", "k", "p"), ("one", "k", "q"),
                                                 ("one", "q", "l"), ("q",)))

    def test_around_a_loop(self):
        self.assertEqual(definition_sets(AROUND), (("x", "y"), ("x", "i"), ("x", "i", "c"), ("x", "i", "c", "m"),
                                                   ("x", "i", "c"), ("x", "j"), ("x", "i")))

    def test_dead_parameters_are_in_the_set_of_their_block(self):
        program = parse_program("block a x y\njump b y x\nblock b u v\nreturn x")
        self.assertEqual(definition_sets(program), (("x", "y"), ("x", "u", "v")))

    def test_prints_have_none(self):
        program = parse_program("block a x\nprint x\ny = read\nprint x\nprint y\nreturn x")
        self.assertEqual(definition_sets(program), (("x",), ("x", "y")))

    def test_block_without_any(self):
        self.assertEqual(definition_sets(parse_program("block a\njump b\nblock b\njump b")), ((), ()))

    def test_programs_by_chance(self):
        for program in random_programs(42, 250, 8):
            rows = sets_by_words(program)
            order = definitions(program)
            self.assertEqual(definition_sets(program), rows)
            self.assertEqual(pressure(program), max([len(row) for row in rows]))
            pairs = [(first, second) for at, first in enumerate(order) for second in order[at + 1:]
                     if [row for row in rows if first in row and second in row]]
            self.assertEqual(clashes(program), tuple(pairs))


class ClashesTest(unittest.TestCase):
    def test_straight(self):
        self.assertEqual(clashes(STRAIGHT), (("x", "y"), ("x", "z")))
        self.assertEqual(pressure(STRAIGHT), 2)

    def test_loop(self):
        self.assertEqual(clashes(LOOP), (("n", "one"), ("one", "k"), ("one", "p"), ("one", "q"), ("one", "l"),
                                         ("k", "p"), ("k", "q"), ("q", "l")))
        self.assertEqual(pressure(LOOP), 3)

    def test_dead_variable_clashes_with_those_live_behind_it(self):
        self.assertEqual(clashes(AROUND), (("x", "y"), ("x", "i"), ("x", "c"), ("x", "m"), ("x", "j"), ("i", "c"),
                                           ("i", "m"), ("c", "m")))
        self.assertEqual(pressure(AROUND), 4)

    def test_variables_that_are_never_live_together(self):
        self.assertEqual(clashes(parse_program("block a x\ny = add x x\nz = add y y\nreturn z")), ())

    def test_dead_ones_of_one_block(self):
        self.assertEqual(clashes(parse_program("block a z x y\nreturn x")), (("z", "x"), ("z", "y"), ("x", "y")))

    def test_pressure_0(self):
        program = parse_program("block a\njump b\nblock b\njump b")
        self.assertEqual((pressure(program), clashes(program)), (0, ()))
        self.assertEqual(pressure(()), 0)

    def test_pressure_16_and_more(self):
        for many in (16, 20):
            rows = [(kind, f"x{number}") for kind in ("read", "print") for number in range(many)]
            self.assertEqual(pressure((("a", (), tuple(rows), ("return", "x0")),)), many)

    def test_new_each_time(self):
        self.assertIs(clashes(LOOP).__class__, tuple)
        self.assertEqual(clashes(LOOP), clashes(LOOP))
        self.assertIs(definition_sets(LOOP).__class__, tuple)
        self.assertEqual({row.__class__ for row in definition_sets(LOOP)}, {tuple})


if __name__ == "__main__":
    unittest.main()
