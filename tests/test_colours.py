import unittest

from stopsheld.colours import assign, coalesce, conflicts, cost
from stopsheld.errors import Clash
from stopsheld.living import clashes, definition_sets, pressure
from stopsheld.programs import defined_by, definitions, dominators, edges, uses_of
from stopsheld.reading import parse_program
from tests.samples import LOOP_TEXT, random_programs, rows_of

LOOP = parse_program(LOOP_TEXT)
EXAMPLE = parse_program("block a x\ny = const 1\njump b x y\nblock b u w\nv = sub u w\nbranch v b v w else c\nblock c\n"
                        "return w")
SAME_WEIGHTS = parse_program("block a x y z\nu = add x y\nv = add u z\nreturn v")
# b stands ahead of c, which dominates it: p has to wait for z.
AGAINST_THE_ORDER = parse_program("block a x\njump c x\nblock b p\nw = add z p\nreturn w\nblock c z\njump b z")
BRANCH = parse_program("block a x y\nbranch x b x y else b y x\nblock b u v\nprint u\nreturn v")


def assignment_of(text):
    """Give the assignment that pairs like x=r0 tell."""
    return tuple([tuple(pair.split("=")) for pair in text.split()])


def sets_by_variable(program):
    """Give for each variable the definition set in which it is defined."""
    rows = iter(definition_sets(program))
    found = {}
    for _, parameters, instructions, _ in program:
        row = next(rows)
        found.update({name: row for name in parameters})
        found.update({defined_by(line): next(rows) for line in instructions if defined_by(line)})
    return found


def spilled_by_words(program, registers):
    """Give the spilled variables by the words of a2."""
    order = list(definitions(program))
    used = [name for block in range(len(program)) for row in rows_of(program, block) for name in uses_of(row)]
    weight = {name: 1 + used.count(name) for name in order}
    rows = definition_sets(program)
    stay = list(order)

    def full():
        return [row for row in rows if len([name for name in row if name in stay]) > registers]

    spilled = []
    while full():
        row = [name for name in full()[0] if name in stay]
        first = min(row, key=lambda name: (weight[name], order.index(name)))
        stay.remove(first)
        spilled.append(first)
    for name in sorted(spilled, key=lambda name: (-weight[name], order.index(name))):
        stay.append(name)
        if full():
            stay.remove(name)
    return [name for name in order if name not in stay]


def assignment_by_words(program, registers):
    """Give the assignment of a2 by its words; blocks come as soon as all that dominate them have come."""
    spilled = spilled_by_words(program, registers)
    rows = sets_by_variable(program)
    above = dominators(program)
    found = {}
    for block in sorted(range(len(program)), key=lambda block: (len(above[block]), block)):
        for name in definitions((program[block],)):
            kind = "s" if name in spilled else "r"
            taken = [found[other] for other in rows[name] if other in found]
            found[name] = [f"{kind}{number}" for number in range(17) if f"{kind}{number}" not in taken][0]
    return tuple([(name, found[name]) for name in definitions(program)])


def cost_by_words(program, places):
    """Give the cost of a1 by its words."""
    return sum([places[argument] != places[parameter] for _, _, target, arguments in edges(program)
                for argument, parameter in zip(arguments, program[target][1])])


def is_clear(pairs, places):
    """Tell whether no two variables that clash, which the pairs tell, have the same place."""
    return all([places[first] != places[second] for first, second in pairs])


def coalesced_by_words(program, assignment):
    """Give the assignment of a4 by its words."""
    places = dict(assignment)
    order = definitions(program)
    clashing = clashes(program)
    pairs = [pair for _, _, target, arguments in edges(program) for pair in zip(arguments, program[target][1])]
    together = [(one, other) for one in order for other in order
                if one != other and ((one, other) in pairs or (other, one) in pairs)]

    def better(one, other):
        moved = {**places, one: places[other]}
        return cost_by_words(program, moved) < cost_by_words(program, places) and is_clear(clashing, moved)

    while True:
        movable = [pair for pair in together if better(*pair)]
        if not movable:
            return tuple(places.items())
        one, other = movable[0]
        places[one] = places[other]


class AssignTest(unittest.TestCase):
    def check(self, program, registers, text):
        self.assertEqual(assign(program, registers), assignment_of(text))

    def test_example(self):
        for registers in range(2, 9):
            self.check(EXAMPLE, registers, "x=r0 y=r1 u=r0 w=r1 v=r0")
        self.assertEqual(cost(EXAMPLE, assign(EXAMPLE, 2)), 0)

    def test_loop(self):
        for registers in range(3, 9):
            self.check(LOOP, registers, "n=r0 one=r1 k=r0 p=r2 q=r2 l=r0")

    def test_loop_with_fewer_registers(self):
        # p is spilled of (one, k, p), and then one of (one, k, q); p stays again.
        self.check(LOOP, 2, "n=r0 one=s0 k=r0 p=r1 q=r1 l=r0")
        self.check(LOOP, 0, "n=s0 one=s1 k=s0 p=s2 q=s2 l=s0")

    def test_loop_with_one_register(self):
        # n and p occur twice, the others three times: n of (n, one), p and one of (one, k, p), k of (one, k, q), and
        # q of (one, q, l) are spilled. Then k and n stay again: where they are, all others are spilled.
        self.check(LOOP, 1, "n=r0 one=s0 k=r0 p=s1 q=s1 l=r0")

    def test_of_the_same_weight_the_first_in_definition_order_is_spilled(self):
        self.check(SAME_WEIGHTS, 3, "x=r0 y=r1 z=r2 u=r0 v=r0")
        self.check(SAME_WEIGHTS, 2, "x=s0 y=r0 z=r1 u=r0 v=r0")

    def test_spilled_variable_stays_again(self):
        # x, y and z are spilled, since z must not stand beside u; then x finds the register free.
        self.check(SAME_WEIGHTS, 1, "x=r0 y=s0 z=s1 u=r0 v=r0")

    def test_least_weight_is_spilled_and_the_greatest_stays_again(self):
        # x and z occur 6 times, y 3 times, u 5 times.
        prints = "".join([f"print {name}\n" for name in "xxyzzzxy"])
        program = parse_program(f"block a x y z\n{prints}u = add x z\n" + "print u\n" * 4 + "print x\nreturn z")
        self.check(program, 3, "x=r0 y=r1 z=r2 u=r1")
        self.check(program, 2, "x=r0 y=s0 z=r1 u=s0")
        self.check(program, 1, "x=s0 y=s1 z=r0 u=s1")
        self.check(program, 0, "x=s0 y=s1 z=s2 u=s1")

    def test_uses_count_as_often_as_they_stand(self):
        # y stands twice in one line, and so is as heavy as x, which comes first; then four times in one end.
        program = parse_program("block a x y\nprint x\nz = add y y\nprint x\nreturn z")
        self.check(program, 1, "x=s0 y=r0 z=r0")
        program = parse_program("block a y x\n" + "print x\n" * 3 + "branch x b y y else b y y\nblock b u v\nreturn u")
        self.check(program, 1, "y=s0 x=r0 u=r0 v=s0")
        program = parse_program("block a y x\n" + "print x\n" * 2 + "branch x b y y else b y y\nblock b u v\nreturn u")
        self.check(program, 1, "y=r0 x=s0 u=r0 v=s0")

    def test_tree_of_dominators_where_it_is_not_the_order_of_the_blocks(self):
        self.check(AGAINST_THE_ORDER, 2, "x=r0 p=r1 w=r0 z=r0")

    def test_dead_variables_get_locations_too(self):
        program = parse_program("block a x y\nz = read\nw = read\nreturn x")
        self.check(program, 2, "x=r0 y=r1 z=r1 w=r1")

    def test_branches_and_parameters(self):
        program = parse_program("block a x\ny = less x x\nbranch y b x else c y\nblock b u\nv = add u x\njump d v\n"
                                "block c w\njump d w\nblock d z\nm = mul z x\nreturn m")
        self.check(program, 8, "x=r0 y=r1 u=r1 v=r1 w=r1 z=r1 m=r0")
        self.check(program, 0, "x=s0 y=s1 u=s1 v=s1 w=s1 z=s1 m=s0")

    def test_sixteen_variables_at_once(self):
        reads = "".join([f"x{number} = read\n" for number in range(16)])
        prints = "".join([f"print x{number}\n" for number in range(16)])
        program = parse_program(f"block a\n{reads}{prints}return x0")
        self.check(program, 0, " ".join([f"x{number}=s{number}" for number in range(16)]))
        # x0 occurs once more than the others and stays; of those the first ones are spilled.
        self.check(program, 8, "x0=r0 " + " ".join([f"x{number}=s{number - 1}" for number in range(1, 9)])
                   + " " + " ".join([f"x{number}=r{number - 8}" for number in range(9, 16)]))

    def test_more_registers_than_the_bound(self):
        self.assertEqual(assign(LOOP, 16), assign(LOOP, 8))

    def test_program_without_variables(self):
        self.assertEqual(assign(parse_program("block a\njump b\nblock b\njump b"), 3), ())

    def test_programs_by_chance(self):
        spilling = 0
        for program in random_programs(51, 200, 8):
            many = pressure(program)
            for registers in range(9):
                assignment = assign(program, registers)
                self.assertEqual(assignment, assignment_by_words(program, registers))
                self.assertEqual(tuple([name for name, _ in assignment]), definitions(program))
                self.assertEqual(conflicts(program, assignment), ())
                used = {location for _, location in assignment if location[0] == "r"}
                self.assertLessEqual(len(used), registers)
                self.assertLessEqual(used | {location for _, location in assignment},
                                     {f"r{number}" for number in range(8)} | {f"s{number}" for number in range(16)})
                if registers >= many:
                    self.assertEqual({location for _, location in assignment}, {f"r{number}" for number in range(many)})
                spilling += registers < many
        self.assertGreater(spilling, 300)


class ConflictsTest(unittest.TestCase):
    def test_in_the_order_of_clashes(self):
        every = assignment_of("n=r0 one=r0 k=r0 p=r0 q=r0 l=r0")
        self.assertEqual(conflicts(LOOP, every), clashes(LOOP))
        some = assignment_of("n=r0 one=s1 k=r0 p=s1 q=t l=s1")
        self.assertEqual(conflicts(LOOP, some), (("one", "p"), ("one", "l")))

    def test_variables_that_do_not_clash_may_share(self):
        self.assertEqual(conflicts(LOOP, assignment_of("n=r0 one=r1 k=r0 p=r2 q=r2 l=r0")), ())
        self.assertEqual(conflicts(SAME_WEIGHTS, assignment_of("x=r0 y=r1 z=r2 u=r1 v=r2")), ())

    def test_each_alone(self):
        self.assertEqual(conflicts(LOOP, assignment_of("n=r0 one=r1 k=r2 p=r3 q=r4 l=r5")), ())

    def test_tuple_of_pairs(self):
        found = conflicts(LOOP, assignment_of("n=r0 one=r0 k=r1 p=r2 q=r3 l=r4"))
        self.assertEqual(found, (("n", "one"),))
        self.assertEqual((found.__class__, found[0].__class__), (tuple, tuple))


class CostTest(unittest.TestCase):
    def test_both_sides_of_a_branch(self):
        for text, many in (("x=r0 y=r1 u=r0 v=r1", 2), ("x=r0 y=r1 u=r1 v=r0", 2), ("x=r0 y=r1 u=r2 v=r3", 4),
                           ("x=r0 y=r1 u=r0 v=r2", 3), ("x=r0 y=r0 u=r0 v=r0", 0), ("x=r0 y=s0 u=s0 v=s1", 3)):
            self.assertEqual(cost(BRANCH, assignment_of(text)), many, text)

    def test_loop(self):
        self.assertEqual(cost(LOOP, assign(LOOP, 3)), 1)
        self.assertEqual(cost(LOOP, assignment_of("n=r0 one=r1 k=r2 p=r3 q=r4 l=r5")), 4)
        self.assertEqual(cost(LOOP, assignment_of("n=r0 one=r1 k=r0 p=r1 q=r1 l=r0")), 0)

    def test_parameter_that_is_its_own_argument(self):
        program = parse_program("block a x y\njump b x y\nblock b u v\nbranch u b u v else b v u")
        self.assertEqual(cost(program, assignment_of("x=r0 y=r1 u=r0 v=r1")), 2)

    def test_one_argument_for_several_parameters(self):
        program = parse_program("block a x\njump b x x x\nblock b u v w\nreturn u")
        self.assertEqual(cost(program, assignment_of("x=r0 u=r0 v=r1 w=r2")), 2)

    def test_no_edges(self):
        self.assertEqual(cost(SAME_WEIGHTS, assign(SAME_WEIGHTS, 3)), 0)

    def test_programs_by_chance(self):
        for program in random_programs(52, 150, 8):
            for registers in (0, 2, 8):
                assignment = assign(program, registers)
                self.assertEqual(cost(program, assignment), cost_by_words(program, dict(assignment)))


class CoalesceTest(unittest.TestCase):
    def check(self, text, before, behind):
        program = parse_program(text)
        assignment = assignment_of(before)
        self.assertEqual(coalesce(program, assignment), assignment_of(behind))
        self.assertEqual(assignment, assignment_of(before))

    def test_parameter_moves_to_its_argument(self):
        # y cannot move to r0, where x is.
        self.check("block a x y\nprint x\njump b y\nblock b u\nreturn u", "x=r0 y=r1 u=r0", "x=r0 y=r1 u=r1")

    def test_argument_moves_to_its_parameter(self):
        self.check("block a x\njump b x\nblock b u\nreturn u", "x=r0 u=r1", "x=r1 u=r1")

    def test_first_variable_in_definition_order_is_moved_first(self):
        # Both x and u could be moved to the other; x is the first one.
        self.check("block a x\nprint x\njump b x\nblock b u\nprint u\nreturn u", "x=r5 u=s3", "x=s3 u=s3")

    def test_first_of_several_other_variables(self):
        # u is the argument of nobody; y cannot move, nor can z, since x is where u is.
        text = "block a x y z\nbranch x b y else b z\nblock b u\nreturn u"
        self.check(text, "x=r0 y=r1 z=r2 u=r0", "x=r0 y=r1 z=r2 u=r1")
        self.check(text, "x=r0 y=r2 z=r1 u=r0", "x=r0 y=r2 z=r1 u=r2")

    def test_other_variables_in_definition_order_not_in_that_of_edges(self):
        # u stands ahead of v; the edge to v comes first.
        self.check("block a x\ny = read\nbranch y c x else b x\nblock b u\nreturn u\nblock c v\nreturn v",
                   "x=r0 y=r1 u=r2 v=r3", "x=r2 y=r1 u=r2 v=r2")

    def test_cost_must_be_less(self):
        # x has as many edges with u as with v, which clash: nothing is won by leaving one for the other.
        self.check("block a x\njump b x x\nblock b u v\nprint u\nreturn v", "x=r0 u=r0 v=r1", "x=r0 u=r0 v=r1")

    def test_moved_several_times(self):
        self.check("block a x\njump b x\nblock b u\njump c u\nblock c v\nreturn v", "x=r0 u=r1 v=r2", "x=r1 u=r1 v=r1")
        self.check("block a x\njump b x\nblock b u\nbranch u c u else c u\nblock c v\nreturn v", "x=r0 u=r1 v=r2",
                   "x=r2 u=r2 v=r2")

    def test_nothing_can_be_moved(self):
        text = "x=r0 y=r1 u=r1 v=r0"
        self.check("block a x y\njump b y x\nblock b u v\nprint u\nreturn v", text, text)
        self.check("block a x\nreturn x", "x=s15", "x=s15")

    def test_parameter_that_is_its_own_argument(self):
        self.check("block a x\njump b x\nblock b u\nbranch u b u else c\nblock c\nreturn u", "x=r0 u=r1", "x=r1 u=r1")

    def test_clash(self):
        for program, text in ((SAME_WEIGHTS, "x=r0 y=r0 z=r1 u=r2 v=r3"), (LOOP, "n=r0 one=r0 k=r0 p=r0 q=r0 l=r0"),
                              (BRANCH, "x=s0 y=s0 u=r0 v=r1")):
            with self.assertRaises(Clash) as caught:
                coalesce(program, assignment_of(text))
            self.assertIs(caught.exception.__class__, Clash)

    def test_same_location_without_a_conflict_is_none(self):
        self.assertEqual(coalesce(LOOP, assign(LOOP, 3)), coalesced_by_words(LOOP, assign(LOOP, 3)))

    def test_programs_by_chance(self):
        gains = 0
        for program in random_programs(53, 150, 8):
            order = definitions(program)
            alone = tuple([(name, f"s{number}") for number, name in enumerate(order)])
            for assignment in (assign(program, 0), assign(program, 2), assign(program, 8), alone):
                found = coalesce(program, assignment)
                self.assertEqual(found, coalesced_by_words(program, assignment))
                self.assertEqual(conflicts(program, found), ())
                self.assertLessEqual(cost(program, found), cost(program, assignment))
                self.assertEqual(coalesce(program, found), found)
                gains += cost(program, found) < cost(program, assignment)
                self.check_no_single_one(program, dict(found))
        self.assertGreater(gains, 100)

    def check_no_single_one(self, program, places):
        """Check that no variable can be moved to the location of an argument or parameter of it."""
        clashing = clashes(program)
        for _, _, target, arguments in edges(program):
            for pair in zip(arguments, program[target][1]):
                for one, other in (pair, pair[::-1]):
                    moved = {**places, one: places[other]}
                    self.assertFalse(cost_by_words(program, moved) < cost_by_words(program, places)
                                     and is_clear(clashing, moved))


if __name__ == "__main__":
    unittest.main()
