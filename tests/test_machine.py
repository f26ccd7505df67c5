import random
import unittest

from stopsheld.codetext import parse_code
from stopsheld.errors import BadArgument
from stopsheld.machine import first, is_step, run_code, tick
from tests.samples import LOCATIONS, random_code, random_words
from tests.test_running import BY_WORDS, word

EDGES = parse_code("""inputs r1 s0
block a
r0 = const 5
r3 = move s0
jump b t=r0 r0=r1 r1=t
block b
print r0
branch r1 b r1=r2 else c r2=r0 r3=r2
block c
r0 = read
s1 = move r0
return s1""")
LINES = parse_code("inputs r0 r1\nblock a\nr2 = const -32768\nr3 = add r0 r1\nr4 = sub r0 r1\nr5 = mul r0 r1\n"
                   "r6 = less r0 r1\nr7 = equal r0 r1\ns0 = read\nprint s0\ns1 = move r3\nprint s1\nreturn r5")
PRINTS = parse_code("inputs r0\nblock a\njump b\nblock b\nprint r0\njump b r1=r0 r0=r1")


def rows_by_words(code, place):
    """Give the line, end or move at a place."""
    _, lines, end = code[1][place[0]]
    if len(place) == 2:
        return (lines + (end,))[place[1]]
    targets = [part for part in end if isinstance(part, tuple)]
    return ("edge",) + targets[place[2]][place[3]]


def behind_by_words(code, block, side, number):
    """Give the place on an edge ahead of a move, or that behind the edge if there is no such move."""
    end = code[1][block][2]
    moves = [part for part in end if isinstance(part, tuple)][side]
    targets = end[1:2] if end[0] == "jump" else end[2:5:2]
    if number < len(moves):
        return (block, len(code[1][block][1]), side, number)
    return ([row[0] for row in code[1]].index(targets[side]), 0)


def run_by_words(code, inputs, given, most):
    """Give the states of at most so many ticks by the words of k4 to k6, whether each was a step, and the value."""
    text = str(code)
    names = [name for name in LOCATIONS if f"'{name}'" in text or name == "t"]
    held = {name: 0 for name in names}
    held.update(dict(zip(code[0], inputs)))
    output, reads, place, value = (), 0, (0, 0), None
    states, steps = [((0, 0), tuple(held.items()), (), 0)], []
    while len(steps) < most and place is not None:
        row = rows_by_words(code, place)
        kind = row[0]
        behind = (place[0], place[1] + 1)
        if kind == "edge":
            held[row[1]] = held[row[2]]
            behind = behind_by_words(code, place[0], place[2], place[3] + 1)
        elif kind == "read":
            if reads == len(given):
                break
            held[row[1]] = given[reads]
            reads += 1
        elif kind == "return":
            value, behind = held[row[1]], None
        elif kind in ("jump", "branch"):
            behind = behind_by_words(code, place[0], int(kind == "branch" and held[row[1]] == 0), 0)
        elif kind == "print":
            output += (held[row[1]],)
        elif kind == "move":
            held[row[1]] = held[row[2]]
        else:
            held[row[1]] = row[2] if kind == "const" else word(BY_WORDS[row[2]](held[row[3]], held[row[4]]))
        steps.append(kind not in ("edge", "move"))
        place = behind
        states.append((place, tuple(held.items()), output, reads))
    return states, steps, value


def states_of(code, inputs, given, most):
    """Give the states of at most so many ticks."""
    found = [first(code, inputs)]
    while len(found) <= most and found[-1][0] is not None:
        state = tick(code, found[-1], given)
        if state is None:
            break
        found.append(state)
    return found


class FirstTest(unittest.TestCase):
    def test_inputs_are_in_their_locations_and_all_others_have_zero(self):
        contents = (("r0", 0), ("r1", 7), ("r2", 0), ("r3", 0), ("s0", -9), ("s1", 0), ("t", 0))
        self.assertEqual(first(EDGES, (7, -9)), ((0, 0), contents, (), 0))
        self.assertEqual(first(PRINTS, (-32768,))[1], (("r0", -32768), ("r1", 0), ("t", 0)))

    def test_scratch_is_told_where_it_does_not_occur(self):
        self.assertEqual(first(parse_code("inputs\nblock a\nreturn s3"), ()), ((0, 0), (("s3", 0), ("t", 0)), (), 0))

    def test_scratch_can_be_an_input(self):
        self.assertEqual(first(parse_code("inputs t r1\nblock a\nreturn t"), (4, 5))[1], (("r1", 5), ("t", 4)))

    def test_contents_are_in_the_order_of_locations(self):
        code = parse_code("inputs s10 s9 r2\nblock a\ns2 = move t\nreturn r0")
        self.assertEqual(first(code, (1, 2, 3))[1],
                         (("r0", 0), ("r2", 3), ("s2", 0), ("s9", 2), ("s10", 1), ("t", 0)))

    def test_location_that_occurs_as_an_input_alone(self):
        self.assertEqual(first(parse_code("inputs r5 r1\nblock a\nreturn r1"), (1, 2))[1],
                         (("r1", 2), ("r5", 1), ("t", 0)))


class TickTest(unittest.TestCase):
    def at(self, code, place, output=(), reads=0, **words):
        names = [name for name, _ in first(code, (0,) * len(code[0]))[1]]
        return (place, tuple([(name, words.get(name, 0)) for name in names]), output, reads)

    def test_each_kind_of_line(self):
        words = {"r0": 300, "r1": -200}
        state = first(LINES, (300, -200))
        told = ((("r2", -32768),), (("r3", 100),), (("r4", 500),), (("r5", 5536),), (("r6", 0),), (("r7", 0),),
                (("s0", 8),), (), (("s1", 100),), ())
        output, reads = (), 0
        for number, change in enumerate(told, 1):
            words.update(dict(change))
            reads += number == 7
            output += {8: (8,), 10: (100,)}.get(number, ())
            state = tick(LINES, state, (8, 9))
            self.assertEqual(state, self.at(LINES, (0, number), output, reads, **words))
        self.assertEqual(tick(LINES, state, ()), self.at(LINES, None, output, reads, **words))

    def test_less_and_equal_that_hold(self):
        states = states_of(LINES, (-1, 0), (1,), 99)
        self.assertEqual((dict(states[6][1])["r6"], dict(states[6][1])["r7"]), (1, 0))
        states = states_of(LINES, (4, 4), (1,), 99)
        self.assertEqual((dict(states[6][1])["r6"], dict(states[6][1])["r7"]), (0, 1))

    def test_wrap_near_the_bounds(self):
        for a, b, expected in ((32767, 1, (-32768, 32766, 32767)), (-32768, 1, (-32767, 32767, -32768)),
                               (-32768, -32768, (0, 0, 0)), (32767, 32767, (-2, 0, 1)), (-32768, -1, (32767, -32767,
                                                                                                   -32768))):
            words = dict(states_of(LINES, (a, b), (), 99)[-1][1])
            self.assertEqual((words["r3"], words["r4"], words["r5"]), expected, (a, b))

    def test_read(self):
        state = self.at(LINES, (0, 6), (), 2)
        self.assertIsNone(tick(LINES, state, ()))
        self.assertIsNone(tick(LINES, state, (5, 6)))
        self.assertEqual(tick(LINES, state, (5, 6, -32768)), self.at(LINES, (0, 7), (), 3, s0=-32768))
        self.assertEqual(tick(LINES, state, (5, 6, 32767, 1)), self.at(LINES, (0, 7), (), 3, s0=32767))

    def test_jump_with_moves_one_behind_the_other(self):
        state = self.at(EDGES, (0, 2), r0=5, r1=7)
        for place, words in (((0, 2, 0, 0), {"r0": 5, "r1": 7}), ((0, 2, 0, 1), {"r0": 5, "r1": 7, "t": 5}),
                             ((0, 2, 0, 2), {"r0": 7, "r1": 7, "t": 5}), ((1, 0), {"r0": 7, "r1": 5, "t": 5})):
            state = tick(EDGES, state, ())
            self.assertEqual(state, self.at(EDGES, place, **words))

    def test_both_sides_of_a_branch(self):
        for value in (1, -1, 32767, -32768):
            state = tick(EDGES, self.at(EDGES, (1, 1), (3,), 1, r1=value, r2=4), ())
            self.assertEqual(state, self.at(EDGES, (1, 1, 0, 0), (3,), 1, r1=value, r2=4))
            self.assertEqual(tick(EDGES, state, ()), self.at(EDGES, (1, 0), (3,), 1, r1=4, r2=4))
        state = self.at(EDGES, (1, 1), r0=9, r2=4)
        for place, words in (((1, 1, 1, 0), {"r0": 9, "r2": 4}), ((1, 1, 1, 1), {"r0": 9, "r2": 9}),
                             ((2, 0), {"r0": 9, "r2": 9, "r3": 9})):
            state = tick(EDGES, state, ())
            self.assertEqual(state, self.at(EDGES, place, **words))

    def test_edges_without_moves(self):
        self.assertEqual(tick(PRINTS, first(PRINTS, (6,)), ()), self.at(PRINTS, (1, 0), r0=6))
        code = parse_code("inputs r0\nblock a\nbranch r0 b r1=r0 else c\nblock b\nreturn r1\nblock c\njump b")
        self.assertEqual(tick(code, first(code, (0,)), ()), self.at(code, (2, 0)))
        self.assertEqual(tick(code, self.at(code, (2, 0)), ()), self.at(code, (1, 0)))
        self.assertEqual(tick(code, first(code, (3,)), ()), self.at(code, (0, 0, 0, 0), r0=3))

    def test_both_sides_to_one_block(self):
        code = parse_code("inputs r0\nblock a\nbranch r0 b r1=r0 else b r2=r0 r1=r2\nblock b\nreturn r1")
        self.assertEqual([state[0] for state in states_of(code, (4,), (), 9)], [(0, 0), (0, 0, 0, 0), (1, 0), None])
        self.assertEqual([state[0] for state in states_of(code, (0,), (), 9)],
                         [(0, 0), (0, 0, 1, 0), (0, 0, 1, 1), (1, 0), None])

    def test_move_to_itself_is_a_tick(self):
        code = parse_code("inputs r0\nblock a\nr0 = move r0\njump b r0=r0\nblock b\nreturn r0")
        self.assertEqual([state[0] for state in states_of(code, (4,), (), 9)],
                         [(0, 0), (0, 1), (0, 1, 0, 0), (1, 0), None])

    def test_behind_a_return(self):
        state = self.at(EDGES, (2, 2), (1, 2), 1, s1=8)
        behind = tick(EDGES, state, ())
        self.assertEqual(behind, self.at(EDGES, None, (1, 2), 1, s1=8))
        for given in ((), (5, 6)):
            with self.assertRaises(BadArgument) as caught:
                tick(EDGES, behind, given)
            self.assertEqual(caught.exception.reason, "returned")

    def test_state_is_left_as_it_is_and_the_next_one_is_of_tuples(self):
        state = self.at(EDGES, (0, 0), r1=3)
        found = tick(EDGES, state, ())
        self.assertEqual(state, self.at(EDGES, (0, 0), r1=3))
        self.assertEqual([part.__class__ for part in found], [tuple, tuple, tuple, int])
        self.assertEqual({pair.__class__ for pair in found[1]}, {tuple})


class StepsTest(unittest.TestCase):
    def test_lines_and_ends_but_no_moves(self):
        self.assertEqual([is_step(EDGES, (0, number)) for number in range(3)], [True, False, True])
        self.assertEqual([is_step(EDGES, (0, 2, 0, number)) for number in range(3)], [False] * 3)
        self.assertEqual([is_step(EDGES, place) for place in ((1, 0), (1, 1), (1, 1, 0, 0), (1, 1, 1, 1))],
                         [True, True, False, False])
        self.assertEqual([is_step(EDGES, (2, number)) for number in range(3)], [True, False, True])
        self.assertEqual([is_step(LINES, (0, number)) for number in range(11)], [True] * 8 + [False, True, True])


class RunTest(unittest.TestCase):
    def test_number_of_steps_that_ends_at_an_edge(self):
        # The steps are const, jump, print, branch, read, return; the moves of the edges are none.
        told = (("running", None, (), 0, ()), ("running", None, (), 1, ()), ("running", None, (), 2, ()),
                ("running", None, (0,), 3, ()), ("running", None, (0,), 4, ()), ("running", None, (0, 0), 5, ()),
                ("running", None, (0, 0), 6, ()), ("running", None, (0, 0), 7, (4,)), ("returned", 4, (0, 0), 8, (4,)))
        for most, expected in enumerate(told):
            self.assertEqual(run_code(EDGES, (0, 3), (4, 6), most), expected, most)
        self.assertEqual(run_code(EDGES, (0, 3), (4, 6), 99), told[-1])

    def test_waiting_and_running(self):
        self.assertEqual(run_code(EDGES, (0, 3), (), 6), ("running", None, (0, 0), 6, ()))
        self.assertEqual(run_code(EDGES, (0, 3), (), 7), ("waiting", None, (0, 0), 6, ()))
        code = parse_code("inputs\nblock a\nr0 = read\nr1 = move r0\nr0 = read\nreturn r1")
        self.assertEqual(run_code(code, (), (), 0), ("running", None, (), 0, ()))
        self.assertEqual(run_code(code, (), (), 1), ("waiting", None, (), 0, ()))
        self.assertEqual(run_code(code, (), (8,), 1), ("running", None, (), 1, (8,)))
        self.assertEqual(run_code(code, (), (8,), 2), ("waiting", None, (), 1, (8,)))
        self.assertEqual(run_code(code, (), (8, 9, 10), 3), ("returned", 8, (), 3, (8, 9)))

    def test_moves_ahead_of_the_return_are_made_with_it(self):
        code = parse_code("inputs r0 r1\nblock a\nprint r0\nr0 = move r1\nr0 = move t\nreturn r0")
        self.assertEqual(run_code(code, (3, 4), (), 1), ("running", None, (3,), 1, ()))
        self.assertEqual(run_code(code, (3, 4), (), 2), ("returned", 0, (3,), 2, ()))

    def test_endless(self):
        self.assertEqual(run_code(PRINTS, (3,), (1,), 5), ("running", None, (3, 3), 5, ()))
        self.assertEqual(run_code(PRINTS, (3,), (), 2001), ("running", None, (3,) * 1000, 2001, ()))

    def test_kinds(self):
        self.assertEqual([part.__class__ for part in run_code(EDGES, (0, 3), (4, 6), 99)],
                         [str, int, tuple, int, tuple])


class ReferenceTest(unittest.TestCase):
    def test_code_by_chance(self):
        chance = random.Random(81)
        statuses = {}
        for _ in range(400):
            code = random_code(chance)
            inputs = random_words(chance, len(code[0]))
            given = random_words(chance, chance.choice((0, 1, 4, 9)))
            states, steps, _ = run_by_words(code, inputs, given, 60)
            self.assertEqual(states_of(code, inputs, given, 60), states, code)
            for state, is_one in zip(states, steps):
                self.assertEqual(is_step(code, state[0]), is_one)
            if states[-1][0] is not None and len(states) <= 60:
                self.assertIsNone(tick(code, states[-1], given))
            for most in (0, 1, 3, 12):
                status = self.check_run(code, inputs, given, most)
                statuses[status] = statuses.get(status, 0) + 1
        self.assertEqual(len(statuses), 3)
        self.assertGreater(min(statuses.values()), 50)

    def check_run(self, code, inputs, given, most):
        states, steps, value = run_by_words(code, inputs, given, 200)
        made = sum(steps)
        if made > most or (made == most and states[-1][0] is not None):
            # It ends as that step was made: where the number of steps ahead is so great for the first time.
            at = [place for place in range(len(states)) if sum(steps[:place]) == most][0]
            expected = ("running", None, states[at][2], most, given[:states[at][3]])
        else:
            status = "returned" if states[-1][0] is None else "waiting"
            expected = (status, value, states[-1][2], made, given[:states[-1][3]])
        self.assertEqual(run_code(code, inputs, given, most), expected, code)
        return expected[0]


if __name__ == "__main__":
    unittest.main()
