import random
import unittest

from stopsheld.errors import BadArgument
from stopsheld.programs import definitions
from stopsheld.reading import parse_program
from stopsheld.running import first_state, run, step, trace
from tests.samples import LOOP_TEXT, random_programs, rows_of

LOOP = parse_program(LOOP_TEXT)
READS = parse_program("block a x\ny = read\nz = add x y\nprint z\nw = read\nprint w\nreturn y")
ENDLESS = parse_program("block a x\njump b\nblock b\nprint x\njump b")

BY_WORDS = {
    "add": lambda a, b: a + b, "sub": lambda a, b: a - b, "mul": lambda a, b: a * b,
    "less": lambda a, b: int(a < b), "equal": lambda a, b: int(a == b),
}


def word(integer):
    """Give the word from which an integer differs by a multiple of 65,536, by trying."""
    return [at for at in range(integer % 65536 - 65536, integer % 65536 + 1, 65536) if -32768 <= at <= 32767][0]


def states_by_words(program, inputs, given, most):
    """Give the states of a run by the words of r1 and r2, and its (status, value)."""
    block, number, reads, output = 0, 0, 0, ()
    values = dict(zip(program[0][1], inputs))
    states = []
    names = [row[0] for row in program]

    def note(point):
        pairs = [(name, values[name]) for name in definitions(program) if name in values]
        states.append((point, tuple(pairs), output, reads))

    note((0, 0))
    for _ in range(most):
        row = rows_of(program, block)[number]
        if row[0] == "return":
            note(None)
            return states, ("returned", values[row[1]])
        if row[0] in ("jump", "branch"):
            taken = row[1:] if row[0] == "jump" else (row[2:4] if values[row[1]] != 0 else row[4:6])
            block, number = names.index(taken[0]), 0
            values.update(dict(zip(program[block][1], [values[name] for name in taken[1]])))
            note((block, 0))
            continue
        if row[0] == "read":
            if reads == len(given):
                return states, ("waiting", None)
            values[row[1]] = given[reads]
            reads += 1
        elif row[0] == "print":
            output += (values[row[1]],)
        else:
            values[row[1]] = row[2] if row[0] == "const" else word(BY_WORDS[row[2]](values[row[3]], values[row[4]]))
        number += 1
        note((block, number))
    return states, ("running", None)


def result(line, *inputs):
    """Give what one instruction that defines z makes of the inputs x and y."""
    return run(parse_program(f"block a x y\nz = {line}\nreturn z"), inputs, (), 9)[1]


class OperationsTest(unittest.TestCase):
    def test_at_the_bounds_of_words(self):
        low, high = -32768, 32767
        for line, a, b, expected in (
                ("add x y", high, 1, low), ("add x y", low, -1, high), ("add x y", high, high, -2),
                ("add x y", low, low, 0), ("add x y", high, 0, high), ("add x x", 16384, 0, low),
                ("sub x y", low, 1, high), ("sub x y", high, -1, low), ("sub x y", 0, low, low),
                ("sub x y", low, high, 1), ("sub x y", -1, low, high), ("sub y x", 1, low, high),
                ("mul x y", low, low, 0), ("mul x y", low, -1, low), ("mul x y", high, high, 1),
                ("mul x y", low, high, low),
                ("mul x y", 256, 128, low), ("mul x y", 256, 256, 0), ("mul x y", 181, 181, 32761),
                ("mul x y", 182, 181, -32594), ("less x y", low, high, 1), ("less x y", high, low, 0),
                ("less x y", low, low, 0), ("less x y", -1, 0, 1), ("less y x", -1, 0, 0), ("equal x y", low, low, 1),
                ("equal x y", low, high, 0), ("equal x y", high, high, 1), ("equal x y", 0, 0, 1),
                ("equal x y", -1, 1, 0), ("const 32767", 0, 0, high), ("const -32768", 0, 0, low),
                ("sub x x", low, 0, 0), ("mul x x", -3, 0, 9)):
            self.assertEqual(result(line, a, b), expected, (line, a, b))


class FirstStateTest(unittest.TestCase):
    def test_inputs(self):
        self.assertEqual(first_state(LOOP, (3,)), ((0, 0), (("n", 3),), (), 0))
        program = parse_program("block a y x\nreturn y")
        self.assertEqual(first_state(program, (1, -2)), ((0, 0), (("y", 1), ("x", -2)), (), 0))

    def test_no_inputs(self):
        self.assertEqual(first_state(parse_program("block a\nx = read\nreturn x"), ()), ((0, 0), (), (), 0))

    def test_inputs_at_the_bounds_and_beyond(self):
        for number in (32767, -32768, 32768, 70000):
            self.assertEqual(first_state(LOOP, (number,)), ((0, 0), (("n", number),), (), 0))


class StepTest(unittest.TestCase):
    def test_parameters_get_each_others_values_at_once(self):
        program = parse_program("block a x y\njump b x y x\nblock b u v w\nbranch u b v w u else b w u v")
        state = step(program, first_state(program, (1, 2)), ())
        self.assertEqual(state, ((1, 0), (("x", 1), ("y", 2), ("u", 1), ("v", 2), ("w", 1)), (), 0))
        state = step(program, ((1, 0), (("x", 1), ("y", 2), ("u", 5), ("v", 6), ("w", 7)), (), 0), ())
        self.assertEqual(state, ((1, 0), (("x", 1), ("y", 2), ("u", 6), ("v", 7), ("w", 5)), (), 0))
        state = step(program, ((1, 0), (("x", 1), ("y", 2), ("u", 0), ("v", 6), ("w", 7)), (), 0), ())
        self.assertEqual(state, ((1, 0), (("x", 1), ("y", 2), ("u", 7), ("v", 0), ("w", 6)), (), 0))

    def test_sides_of_a_branch(self):
        program = parse_program("block a x\nbranch x b else c\nblock c\nreturn x\nblock b\nreturn x")
        for number, target in ((1, 2), (0, 1), (-1, 2), (-32768, 2), (32767, 2)):
            values = (("x", number),)
            self.assertEqual(step(program, ((0, 0), values, (), 0), ()), ((target, 0), values, (), 0))

    def test_values_stay_in_definition_order_and_are_those_of_the_last_time(self):
        program = parse_program("block a x\njump c\nblock b\ny = read\njump c\nblock c\nz = read\nbranch z b else c")
        state = first_state(program, (1,))
        for _ in range(6):
            state = step(program, state, (7, 8, 9))
        self.assertEqual(state, ((2, 1), (("x", 1), ("y", 8), ("z", 9)), (), 3))
        self.assertEqual(step(program, state, (7, 8, 9)), ((1, 0), (("x", 1), ("y", 8), ("z", 9)), (), 3))

    def test_read_takes_the_next_word(self):
        state = first_state(READS, (5,))
        self.assertIsNone(step(READS, state, ()))
        self.assertEqual(step(READS, state, (7, 9)), ((0, 1), (("x", 5), ("y", 7)), (), 1))
        self.assertEqual(step(READS, state, (-32768,)), ((0, 1), (("x", 5), ("y", -32768)), (), 1))
        state = ((0, 3), (("x", 5), ("y", 7), ("z", 12)), (12,), 1)
        self.assertIsNone(step(READS, state, (7,)))
        self.assertEqual(step(READS, state, (7, 9)), ((0, 4), (("x", 5), ("y", 7), ("z", 12), ("w", 9)), (12,), 2))

    def test_print(self):
        state = ((0, 2), (("x", 5), ("y", 7), ("z", 12)), (3, -4), 1)
        self.assertEqual(step(READS, state, (7,)), ((0, 3), (("x", 5), ("y", 7), ("z", 12)), (3, -4, 12), 1))

    def test_return_makes_no_further_state(self):
        state = ((2, 0), (("n", 3), ("q", 6)), (1,), 2)
        behind = step(LOOP, state, ())
        self.assertEqual(behind, (None, (("n", 3), ("q", 6)), (1,), 2))
        for given in ((), (5,)):
            with self.assertRaises(BadArgument) as caught:
                step(LOOP, behind, given)
            self.assertEqual(caught.exception.reason, "returned")

    def test_state_is_left_as_it_is_and_the_next_one_is_of_tuples(self):
        state = ((0, 2), (("x", 5), ("y", 7), ("z", 12)), (), 1)
        found = step(READS, state, (7,))
        self.assertEqual(state, ((0, 2), (("x", 5), ("y", 7), ("z", 12)), (), 1))
        self.assertEqual([part.__class__ for part in found], [tuple, tuple, tuple, int])


class RunTest(unittest.TestCase):
    def test_example(self):
        program = parse_program("block a x\ny = read\nz = add x y\nprint z\nreturn y")
        self.assertEqual(run(program, (5,), (7, 9), 99), ("returned", 7, (12,), 4, (7,)))

    def test_loop(self):
        for number, value, steps in ((1, 1, 6), (2, 2, 9), (3, 6, 12), (5, 120, 18), (8, 40320 - 65536, 27)):
            self.assertEqual(run(LOOP, (number,), (), 99), ("returned", value, (), steps, ()))

    def test_greatest_number_of_steps(self):
        for most in (12, 13, 500):
            self.assertEqual(run(LOOP, (3,), (), most), ("returned", 6, (), 12, ()))
        for most in (0, 1, 5, 11):
            self.assertEqual(run(LOOP, (3,), (), most), ("running", None, (), most, ()))

    def test_waiting(self):
        self.assertEqual(run(READS, (5,), (), 99), ("waiting", None, (), 0, ()))
        self.assertEqual(run(READS, (5,), (7,), 99), ("waiting", None, (12,), 3, (7,)))
        self.assertEqual(run(READS, (5,), (7, 9), 99), ("returned", 7, (12, 9), 6, (7, 9)))
        self.assertEqual(run(READS, (5,), (7, 9, 11), 99), ("returned", 7, (12, 9), 6, (7, 9)))

    def test_running_comes_ahead_of_waiting(self):
        self.assertEqual(run(READS, (5,), (), 0), ("running", None, (), 0, ()))
        self.assertEqual(run(READS, (5,), (), 1), ("waiting", None, (), 0, ()))
        self.assertEqual(run(READS, (5,), (7,), 3), ("running", None, (12,), 3, (7,)))
        self.assertEqual(run(READS, (5,), (7,), 4), ("waiting", None, (12,), 3, (7,)))
        self.assertEqual(run(READS, (5,), (7,), 2), ("running", None, (), 2, (7,)))

    def test_return_at_the_last_step(self):
        self.assertEqual(run(READS, (5,), (7, 9), 6)[0], "returned")
        self.assertEqual(run(READS, (5,), (7, 9), 5), ("running", None, (12, 9), 5, (7, 9)))
        program = parse_program("block a x\nreturn x")
        self.assertEqual(run(program, (4,), (), 0), ("running", None, (), 0, ()))
        self.assertEqual(run(program, (4,), (), 1), ("returned", 4, (), 1, ()))

    def test_returned_value_can_be_zero(self):
        self.assertEqual(run(parse_program("block a x\nreturn x"), (0,), (), 5), ("returned", 0, (), 1, ()))

    def test_endless(self):
        self.assertEqual(run(ENDLESS, (3,), (1,), 5), ("running", None, (3, 3), 5, ()))
        self.assertEqual(run(ENDLESS, (3,), (1,), 20001), ("running", None, (3,) * 10000, 20001, ()))

    def test_kinds(self):
        found = run(READS, (5,), (7, 9), 99)
        self.assertEqual([part.__class__ for part in found], [str, int, tuple, int, tuple])


class TraceTest(unittest.TestCase):
    def test_first_and_last_state(self):
        program = parse_program("block a x\ny = read\nprint y\nreturn x")
        states = [((0, 0), (("x", 5),), (), 0), ((0, 1), (("x", 5), ("y", 7)), (), 1),
                  ((0, 2), (("x", 5), ("y", 7)), (7,), 1), (None, (("x", 5), ("y", 7)), (7,), 1)]
        for most in (3, 4, 99):
            self.assertEqual(trace(program, (5,), (7,), most), states)
        for most in (0, 1, 2):
            self.assertEqual(trace(program, (5,), (7,), most), states[:most + 1])
        for most in (0, 1, 99):
            self.assertEqual(trace(program, (5,), (), most), states[:1])

    def test_new_each_time(self):
        first, second = trace(LOOP, (3,), (), 99), trace(LOOP, (3,), (), 99)
        self.assertIs(first.__class__, list)
        self.assertEqual(len(first), 13)
        self.assertIsNot(first, second)
        first.clear()
        self.assertEqual(trace(LOOP, (3,), (), 99), second)


class ReferenceTest(unittest.TestCase):
    def test_programs_by_chance(self):
        chance = random.Random(31)
        statuses = {}
        for program in random_programs(32, 400, 8):
            inputs = tuple([chance.choice((0, 1, 2, -5, 32767, -32768)) for _ in program[0][1]])
            given = tuple([chance.randrange(-3, 4) for _ in range(chance.choice((0, 1, 4, 9)))])
            for most in (0, 1, 2, 7, 60):
                states, (status, value) = states_by_words(program, inputs, given, most)
                self.assertEqual(trace(program, inputs, given, most), states, program)
                _, _, output, reads = states[-1]
                told = (status, value, output, len(states) - 1, given[:reads])
                self.assertEqual(run(program, inputs, given, most), told, program)
                statuses[status] = statuses.get(status, 0) + 1
                self.assertEqual(first_state(program, inputs), states[0])
                for state, behind in zip(states, states[1:]):
                    self.assertEqual(step(program, state, given), behind)
                if status == "waiting":
                    self.assertIsNone(step(program, states[-1], given))
        self.assertEqual(len(statuses), 3)
        self.assertGreater(min(statuses.values()), 100)


if __name__ == "__main__":
    unittest.main()
