import itertools
import random
import unittest

from stopsheld.programs import defined_by, definitions, dominators, edges, immediate, uses_of

NAMES = "abcdefghijklmnop"


def program_of(targets):
    """Give a program whose blocks go where the rows of targets tell: () returns, (t,) jumps, (t, u) branches."""
    blocks = []
    for number, row in enumerate(targets):
        parameters = ("x",) if number == 0 else ()
        end = ("return", "x")
        if len(row) == 1:
            end = ("jump", NAMES[row[0]], ())
        if len(row) == 2:
            end = ("branch", "x", NAMES[row[0]], (), NAMES[row[1]], ())
        blocks.append((NAMES[number], parameters, (), end))
    return tuple(blocks)


def ways_to(targets, block):
    """Give all ways from the entry to a block on which no block stands twice."""
    found = []
    left = [(0,)]
    while left:
        way = left.pop()
        if way[-1] == block:
            found.append(way)
            continue
        left.extend([way + (target,) for target in targets[way[-1]] if target not in way])
    return found


def dominators_by_ways(targets):
    """Give the dominators of each block by the words of p4; None if no way leads to one."""
    rows = []
    for block in range(len(targets)):
        ways = ways_to(targets, block)
        if not ways:
            return None
        rows.append(tuple([at for at in range(len(targets)) if all(at in way for way in ways)]))
    return tuple(rows)


def immediate_by_words(rows):
    """Give the immediate dominators by the words of p4, from the dominators."""
    found = [None]
    for block in range(1, len(rows)):
        others = [at for at in rows[block] if at != block]
        nearest = [at for at in others if all(other in rows[at] for other in others)]
        assert len(nearest) == 1
        found.append(nearest[0])
    return tuple(found)


LOOP = (
    ("a", ("n",), (("const", "one", 1),), ("jump", "b", ("n", "one"))),
    ("b", ("k", "p"), (("op", "q", "mul", "p", "k"), ("print", "q"), ("op", "l", "sub", "k", "one")),
     ("branch", "l", "b", ("l", "q"), "c", ())),
    ("c", (), (("read", "w"),), ("return", "w")),
)


class DefinitionsTest(unittest.TestCase):
    def test_parameters_of_a_block_then_its_instructions(self):
        self.assertEqual(definitions(LOOP), ("n", "one", "k", "p", "q", "l", "w"))

    def test_order_is_that_of_the_blocks_not_of_names_or_ways(self):
        program = (
            ("m", ("z", "a"), (), ("jump", "b", ())),
            ("x", (), (("read", "y"), ("print", "y"), ("const", "c", 0)), ("return", "c")),
            ("b", (), (("op", "b", "add", "z", "a"),), ("jump", "x", ())),
        )
        self.assertEqual(definitions(program), ("z", "a", "y", "c", "b"))

    def test_no_variables_but_the_one_returned(self):
        self.assertEqual(definitions((("a", ("x",), (), ("return", "x")),)), ("x",))
        self.assertEqual(definitions((("a", (), (("read", "x"),), ("return", "x")),)), ("x",))

    def test_none_at_all(self):
        self.assertEqual(definitions((("a", (), (), ("jump", "b", ())), ("b", (), (), ("jump", "b", ())))), ())

    def test_sixteen_in_eight_blocks_and_more(self):
        for many in (8, 12):
            blocks = []
            for number in range(many):
                end = ("jump", NAMES[number + 1], ("x0",)) if number + 1 < many else ("return", "x0")
                blocks.append((NAMES[number], (f"x{number}",), (("read", f"y{number}"), ("print", "x0")), end))
            expected = tuple(f"{letter}{number}" for number in range(many) for letter in "xy")
            self.assertEqual(definitions(tuple(blocks)), expected)

    def test_four_parameters_and_more(self):
        for parameters in (("d", "c", "b", "a"), ("f", "d", "c", "b", "a", "e")):
            self.assertEqual(definitions((("a", parameters, (), ("return", "a")),)), parameters)

    def test_words_of_the_forms_as_variables(self):
        program = (("read", ("print", "jump"), (("const", "op", 3), ("print", "op"), ("read", "const")),
                    ("return", "read")),)
        self.assertEqual(definitions(program), ("print", "jump", "op", "const"))

    def test_a_tuple(self):
        self.assertIs(definitions(LOOP).__class__, tuple)


class DefinedByTest(unittest.TestCase):
    def test_const(self):
        self.assertEqual(defined_by(("const", "x", -5)), "x")
        self.assertEqual(defined_by(("const", "print", 0)), "print")

    def test_operations(self):
        for operation in ("add", "sub", "mul", "less", "equal"):
            self.assertEqual(defined_by(("op", "x", operation, "a", "b")), "x")
        self.assertEqual(defined_by(("op", "add", "sub", "x", "print")), "add")

    def test_read(self):
        self.assertEqual(defined_by(("read", "x")), "x")
        self.assertEqual(defined_by(("read", "print")), "print")

    def test_print_defines_nothing(self):
        self.assertIsNone(defined_by(("print", "x")))
        self.assertIsNone(defined_by(("print", "read")))


class UsesTest(unittest.TestCase):
    def check(self, row, uses):
        found = uses_of(row)
        self.assertEqual(found, uses)
        self.assertIs(found.__class__, tuple)

    def test_const_and_read_use_nothing(self):
        self.check(("const", "x", 5), ())
        self.check(("read", "x"), ())

    def test_operations(self):
        for operation in ("add", "sub", "mul", "less", "equal"):
            self.check(("op", "x", operation, "b", "a"), ("b", "a"))
        self.check(("op", "x", "add", "a", "a"), ("a", "a"))
        self.check(("op", "print", "add", "read", "add"), ("read", "add"))

    def test_print(self):
        self.check(("print", "x"), ("x",))
        self.check(("print", "const"), ("const",))

    def test_return(self):
        self.check(("return", "x"), ("x",))
        self.check(("return", "jump"), ("jump",))

    def test_jump(self):
        self.check(("jump", "b", ()), ())
        self.check(("jump", "b", ("x",)), ("x",))
        self.check(("jump", "b", ("y", "x", "y", "b")), ("y", "x", "y", "b"))

    def test_branch(self):
        self.check(("branch", "x", "b", (), "c", ()), ("x",))
        self.check(("branch", "x", "b", ("y",), "c", ()), ("x", "y"))
        self.check(("branch", "x", "b", (), "c", ("y",)), ("x", "y"))
        self.check(("branch", "x", "b", ("z", "x"), "c", ("y", "z", "x")), ("x", "z", "x", "y", "z", "x"))
        self.check(("branch", "b", "b", ("b", "c"), "b", ("c", "b")), ("b", "b", "c", "c", "b"))

    def test_more_arguments_than_the_bound(self):
        many = ("a", "b", "c", "d", "e", "f")
        self.check(("jump", "b", many), many)
        self.check(("branch", "x", "b", many, "c", many), ("x",) + many + many)


class EdgesTest(unittest.TestCase):
    def check(self, program, expected):
        found = edges(program)
        self.assertEqual(found, expected)
        self.assertIs(found.__class__, tuple)
        for row in found:
            self.assertIs(row.__class__, tuple)
            self.assertIs(row[3].__class__, tuple)

    def test_return_has_none(self):
        self.check((("a", ("x",), (), ("return", "x")),), ())

    def test_jump_has_side_0(self):
        self.check((("a", ("x",), (), ("jump", "b", ("x",))), ("b", ("y",), (), ("return", "y"))),
                   ((0, 0, 1, ("x",)),))

    def test_branch_has_side_0_then_side_1(self):
        program = (
            ("a", ("x", "y"), (), ("branch", "x", "c", ("y", "x"), "b", ())),
            ("b", (), (), ("return", "x")),
            ("c", ("u", "v"), (), ("return", "v")),
        )
        self.check(program, ((0, 0, 2, ("y", "x")), (0, 1, 1, ())))

    def test_both_sides_to_the_same_block(self):
        program = (
            ("a", ("x", "y"), (), ("branch", "x", "b", ("y",), "b", ("x",))),
            ("b", ("z",), (), ("return", "z")),
        )
        self.check(program, ((0, 0, 1, ("y",)), (0, 1, 1, ("x",))))

    def test_loop(self):
        self.check(LOOP, ((0, 0, 1, ("n", "one")), (1, 0, 1, ("l", "q")), (1, 1, 2, ())))

    def test_by_blocks_not_by_targets(self):
        program = (
            ("e", ("x",), (), ("jump", "d", ())),
            ("a", (), (), ("jump", "b", ())),
            ("b", (), (), ("return", "x")),
            ("d", (), (), ("branch", "x", "b", (), "a", ())),
        )
        self.check(program, ((0, 0, 3, ()), (1, 0, 2, ()), (3, 0, 2, ()), (3, 1, 1, ())))

    def test_blocks_named_as_variables_and_forms(self):
        program = (
            ("x", ("jump",), (), ("branch", "jump", "return", ("jump",), "branch", ())),
            ("return", ("branch",), (), ("jump", "branch", ())),
            ("branch", (), (), ("return", "jump")),
        )
        self.check(program, ((0, 0, 1, ("jump",)), (0, 1, 2, ()), (1, 0, 2, ())))

    def test_eight_blocks_and_more(self):
        for many in (8, 16):
            program = program_of([(number + 1,) for number in range(many - 1)] + [()])
            self.check(program, tuple([(number, 0, number + 1, ()) for number in range(many - 1)]))


class DominatorsTest(unittest.TestCase):
    def check(self, targets, rows, nearest):
        program = program_of(targets)
        self.assertEqual(dominators(program), rows)
        self.assertEqual(immediate(program), nearest)

    def test_one_block(self):
        self.check([()], ((0,),), (None,))

    def test_straight_way(self):
        self.check([(1,), (2,), (3,), ()], ((0,), (0, 1), (0, 1, 2), (0, 1, 2, 3)), (None, 0, 1, 2))

    def test_straight_way_against_the_order(self):
        self.check([(3,), (), (1,), (2,)], ((0,), (0, 1, 2, 3), (0, 2, 3), (0, 3)), (None, 2, 3, 0))

    def test_both_sides_to_the_same_block(self):
        self.check([(1, 1), ()], ((0,), (0, 1)), (None, 0))

    def test_diamond(self):
        self.check([(1, 2), (3,), (3,), ()], ((0,), (0, 1), (0, 2), (0, 3)), (None, 0, 0, 0))

    def test_diamond_in_a_side_of_a_diamond(self):
        targets = [(1, 5), (2, 3), (4,), (4,), (6,), (6,), ()]
        rows = ((0,), (0, 1), (0, 1, 2), (0, 1, 3), (0, 1, 4), (0, 5), (0, 6))
        self.check(targets, rows, (None, 0, 1, 1, 1, 0, 0))

    def test_side_that_is_cut_short(self):
        self.check([(1, 2), (2,), ()], ((0,), (0, 1), (0, 2)), (None, 0, 0))

    def test_block_that_goes_to_itself(self):
        self.check([(1,), (1, 2), ()], ((0,), (0, 1), (0, 1, 2)), (None, 0, 1))

    def test_endless_loop(self):
        self.check([(1,), (2,), (1,)], ((0,), (0, 1), (0, 1, 2)), (None, 0, 1))

    def test_loop_within_a_loop(self):
        targets = [(1,), (2, 5), (3,), (3, 4), (1,), ()]
        rows = ((0,), (0, 1), (0, 1, 2), (0, 1, 2, 3), (0, 1, 2, 3, 4), (0, 1, 5))
        self.check(targets, rows, (None, 0, 1, 2, 3, 1))

    def test_loop_with_two_beginnings(self):
        self.check([(1, 2), (2,), (1, 3), ()], ((0,), (0, 1), (0, 2), (0, 2, 3)), (None, 0, 0, 2))

    def test_eight_blocks(self):
        targets = [(1,), (2, 7), (3, 4), (5,), (5,), (2, 6), (1,), ()]
        rows = ((0,), (0, 1), (0, 1, 2), (0, 1, 2, 3), (0, 1, 2, 4), (0, 1, 2, 5), (0, 1, 2, 5, 6), (0, 1, 7))
        self.check(targets, rows, (None, 0, 1, 2, 2, 2, 5, 1))

    def test_loop_with_arguments(self):
        self.assertEqual(dominators(LOOP), ((0,), (0, 1), (0, 1, 2)))
        self.assertEqual(immediate(LOOP), (None, 0, 1))

    def check_by_ways(self, targets):
        rows = dominators_by_ways(targets)
        if rows is not None:
            self.check(targets, rows, immediate_by_words(rows))
        return rows is not None

    def test_all_programs_of_up_to_four_blocks_against_all_ways(self):
        for many in (1, 2, 3, 4):
            later = range(1, many)
            rows = [()] + [(target,) for target in later] + list(itertools.product(later, later))
            checked = [self.check_by_ways(targets) for targets in itertools.product(rows, repeat=many)]
            self.assertIn(True, checked)

    def test_programs_of_five_to_eight_blocks_against_all_ways(self):
        chance = random.Random(20261119)
        for many in (5, 6, 7, 8):
            left = 150
            while left:
                targets = [tuple([chance.randrange(1, many) for _ in range(chance.choice((0, 1, 2, 2, 2)))])
                           for _ in range(many)]
                left -= self.check_by_ways(targets)

    def test_more_blocks_than_the_bound(self):
        many = 12
        targets = [(number + 1,) for number in range(many - 1)] + [()]
        rows = tuple([tuple(range(number + 1)) for number in range(many)])
        self.check(targets, rows, (None,) + tuple(range(many - 1)))

    def test_tuples(self):
        rows = dominators(LOOP)
        self.assertIs(rows.__class__, tuple)
        self.assertEqual({row.__class__ for row in rows}, {tuple})
        self.assertIs(immediate(LOOP).__class__, tuple)


if __name__ == "__main__":
    unittest.main()
