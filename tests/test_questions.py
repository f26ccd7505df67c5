import random
import unittest

from stopsheld.colours import assign
from stopsheld.errors import BadArgument
from stopsheld.making import make_code
from stopsheld.questions import defined, since, slice_of, steps_made, words_of
from stopsheld.reading import parse_program
from stopsheld.sessions import Session
from tests.leading import Model, answers, answers_by_words, do, random_deed, random_questions, told_by
from tests.samples import LOOP_TEXT, random_cases
from tests.test_colours import assignment_of

LOOP = parse_program(LOOP_TEXT)
READS = parse_program("block a x\ny = read\nz = read\nc = const 2\nw = mul y c\nv = add w x\njump b v z\n"
                      "block b p q\nprint p\nr = read\nbranch r b q p else d\nblock d\nu = sub p p\nreturn u")
READS_CODE = make_code(READS, assign(READS, 8))
SWAPS = parse_program("block a x y\njump b y x\nblock b u v\nbranch u b v u else c\nblock c\nreturn v")
SWAPS_CODE = make_code(SWAPS, assignment_of("x=r0 y=r1 u=r0 v=r1"))


def loop(number, most=4):
    return Session(LOOP, make_code(LOOP, assign(LOOP, most)), (number,), (), 4)


def reads(*given):
    return Session(READS, READS_CODE, (10,), given, 3)


def ticked(session, many):
    """Give a session that is so many ticks further."""
    for _ in range(many):
        assert session.forth() == "moved"
    return session


class StepsTest(unittest.TestCase):
    def test_amid_edges_the_end_counts_as_not_made(self):
        session = Session(SWAPS, SWAPS_CODE, (1, 2), (), 4)
        told = []
        for _ in range(10):
            told.append((session.stop()[0], steps_made(session)))
            session.forth()
        self.assertEqual(told, [((0, 0), 0), ((0, 0, 0, 0), 0), ((0, 0, 0, 1), 0), ((0, 0, 0, 2), 0), ((1, 0), 1),
                                ((1, 0, 0, 0), 1), ((1, 0, 0, 1), 1), ((1, 0, 0, 2), 1), ((1, 0), 2),
                                ((1, 0, 0, 0), 2)])

    def test_behind_a_return(self):
        session = loop(3)
        session.until(("point", "a", 9))
        self.assertEqual((session.stop()[0], steps_made(session)), (None, 12))
        session.back()
        self.assertEqual(steps_made(session), 11)

    def test_moves_among_the_lines_are_no_steps(self):
        program = parse_program("block a x\nprint x\nreturn x")
        code = (("r0",), (("a", (("move", "r1", "r0"), ("move", "r2", "r1"), ("print", "r2"), ("move", "r0", "r1")),
                           ("return", "r0")),))
        session = Session(program, code, (4,), (), 2)
        told = []
        for _ in range(6):
            told.append(steps_made(session))
            session.forth()
        self.assertEqual(told, [0, 0, 0, 1, 1, 2])


class DefinedTest(unittest.TestCase):
    def test_lines_ends_and_inputs(self):
        session = reads(3, 4, 1, 0)
        self.assertEqual([defined(session, name) for name in "xyzcwvpqru"], [0] + [None] * 9)
        session.until(("point", "b", 0))
        self.assertEqual([defined(session, name) for name in "xyzcwvpqru"], [0, 1, 2, 3, 4, 5, 6, 6, None, None])
        session.until(("point", "b", 0))
        self.assertEqual([defined(session, name) for name in "xyzcwvpqru"], [0, 1, 2, 3, 4, 5, 9, 9, 8, None])
        session.until(("point", "a", 0))
        self.assertEqual((steps_made(session), [defined(session, name) for name in "pqru"]), (14, [9, 9, 11, 13]))

    def test_again_in_a_loop(self):
        session = loop(3)
        found = []
        while session.until(("point", "b", 0)) == "holds":
            found.append((steps_made(session), defined(session, "k"), defined(session, "q"), defined(session, "one")))
        self.assertEqual(found, [(2, 2, None, 1), (5, 5, 3, 1), (8, 8, 6, 1)])

    def test_amid_an_edge_its_parameters_are_not_defined_yet(self):
        session = ticked(Session(SWAPS, SWAPS_CODE, (1, 2), (), 4), 3)
        self.assertEqual((defined(session, "u"), defined(session, "x")), (None, 0))
        ticked(session, 1)
        self.assertEqual((defined(session, "u"), defined(session, "v")), (1, 1))
        ticked(session, 2)
        self.assertEqual((defined(session, "u"), defined(session, "v")), (1, 1))
        ticked(session, 2)
        self.assertEqual((defined(session, "u"), defined(session, "v")), (2, 2))

    def test_after_going_back(self):
        session = loop(3)
        session.until(("point", "c", 0))
        self.assertEqual((defined(session, "q"), defined(session, "k")), (9, 8))
        session.back_until(("word", "k", "=", 3))
        self.assertEqual((defined(session, "q"), defined(session, "k")), (3, 2))
        session.to(0)
        self.assertEqual((defined(session, "q"), defined(session, "k"), defined(session, "n")), (None, None, 0))


class SinceTest(unittest.TestCase):
    def test_always(self):
        session = loop(3)
        for _ in range(3):
            self.assertEqual(since(session, ("word", "n", "=", 3)), 0)
            self.assertEqual(since(session, ("word", "n", ">", -1)), 0)
            session.until(("point", "b", 0))

    def test_since_a_step(self):
        session = loop(3)
        session.until(("point", "c", 0))
        self.assertEqual(steps_made(session), 11)
        for condition, number in ((("k", "<", 9), 2), (("k", "<", 3), 5), (("k", "<", 2), 8), (("k", "=", 1), 8),
                                  (("q", "=", 6), 6), (("q", ">", 3), 6), (("q", ">", 0), 3), (("one", "=", 1), 1),
                                  (("l", "=", 0), 10), (("p", "=", 6), 8), (("p", "<", 7), 2)):
            self.assertEqual(since(session, ("word",) + condition), number, condition)

    def test_not_now(self):
        session = loop(3)
        session.until(("point", "c", 0))
        for condition in (("k", ">", 1), ("k", "=", 3), ("q", "<", 6), ("l", "=", 1), ("n", "=", 2)):
            self.assertIsNone(since(session, ("word",) + condition), condition)

    def test_broken_in_between(self):
        # u and v change places again and again.
        session = Session(SWAPS, SWAPS_CODE, (1, 2), (), 4)
        for number in (1, 2, 3, 4):
            session.until(("point", "b", 0))
            self.assertEqual(since(session, ("word", "u", "=", 2)), number if number % 2 else None)
            self.assertEqual(since(session, ("word", "u", "=", 1)), None if number % 2 else number)
            self.assertEqual(since(session, ("word", "u", ">", 0)), 1)

    def test_not_defined(self):
        session = loop(3)
        for sign in "=<>":
            self.assertIsNone(since(session, ("word", "q", sign, 0)))

    def test_variables_that_are_not_told(self):
        # p and q have one location: behind the multiplication p is told no longer.
        session = loop(3)
        session.until(("point", "b", 1))
        self.assertNotIn("p", dict(session.stop()[2]))
        self.assertEqual(since(session, ("word", "p", "=", 1)), 2)

    def test_behind_a_return(self):
        session = loop(3)
        session.until(("point", "a", 9))
        self.assertEqual((since(session, ("word", "q", "=", 6)), since(session, ("word", "q", "=", 3))), (6, None))
        self.assertEqual(since(session, ("word", "n", "<", 4)), 0)


class SliceTest(unittest.TestCase):
    def test_example(self):
        session = loop(3)
        self.assertEqual(session.until(("word", "q", "=", 6)), "holds")
        self.assertEqual(slice_of(session, "q"), (1, 2, 3, 4, 5, 6))

    def test_operations_reads_and_constants(self):
        session = reads(3, 4, 1, 0)
        session.until(("point", "a", 5))
        self.assertEqual([slice_of(session, name) for name in "xyzcwvp"],
                         [(), (1,), (2,), (3,), (1, 3, 4), (1, 3, 4, 5), ()])
        self.assertEqual([words_of(session, name) for name in "xyzcwvp"], [(), (0,), (1,), (), (0,), (0,), ()])

    def test_edges(self):
        session = reads(3, 4, 1, 0)
        session.until(("point", "b", 0))
        self.assertEqual((slice_of(session, "p"), slice_of(session, "q")), ((1, 3, 4, 5, 6), (2, 6)))
        self.assertEqual((words_of(session, "p"), words_of(session, "q")), ((0,), (1,)))
        session.until(("point", "b", 0))
        # They changed places; r, on which it depends that the loop is gone again, does not count.
        self.assertEqual((slice_of(session, "p"), slice_of(session, "q")), ((2, 6, 9), (1, 3, 4, 5, 6, 9)))
        self.assertEqual((words_of(session, "p"), words_of(session, "q"), words_of(session, "r")), ((1,), (0,), (2,)))

    def test_both_operands_are_the_same(self):
        session = reads(3, 4, 0)
        session.until(("point", "d", 1))
        self.assertEqual((slice_of(session, "u"), words_of(session, "u")), ((1, 3, 4, 5, 6, 10), (0,)))

    def test_values_at_that_moment(self):
        # l was made of the k of its own turn, not of that one which k is now.
        session = loop(3)
        session.until(("point", "b", 0))
        session.until(("point", "b", 0))
        self.assertEqual((steps_made(session), slice_of(session, "l"), slice_of(session, "k")), (5, (1, 2, 4),
                                                                                              (1, 2, 4, 5)))
        self.assertEqual((slice_of(session, "q"), slice_of(session, "p")), ((1, 2, 3), (1, 2, 3, 5)))

    def test_amid_an_edge_and_behind_a_return(self):
        session = ticked(Session(SWAPS, SWAPS_CODE, (1, 2), (), 4), 2)
        self.assertEqual((slice_of(session, "u"), slice_of(session, "x")), ((), ()))
        ticked(session, 4)
        self.assertEqual((slice_of(session, "u"), slice_of(session, "v")), ((1,), (1,)))
        ticked(session, 2)
        self.assertEqual((slice_of(session, "u"), slice_of(session, "v")), ((1, 2), (1, 2)))
        session = reads(3, 4, 0)
        session.until(("point", "a", 0))
        self.assertEqual((session.stop()[0], slice_of(session, "u")), (None, (1, 3, 4, 5, 6, 10)))
        self.assertEqual((steps_made(session), defined(session, "u")), (11, 10))

    def test_both_sides_to_one_block(self):
        program = parse_program("block a x\ny = read\nz = read\nbranch x b y else b z\nblock b u\nreturn u")
        for word, numbers, words in ((1, (1, 3), (0,)), (0, (2, 3), (1,))):
            session = Session(program, make_code(program, assign(program, 3)), (word,), (8, 9), 2)
            session.until(("point", "b", 0))
            self.assertEqual((slice_of(session, "u"), words_of(session, "u")), (numbers, words))

    def test_not_defined(self):
        session = loop(3)
        self.assertEqual((slice_of(session, "q"), words_of(session, "q")), ((), ()))

    def test_tuples(self):
        session = reads(3, 4, 1, 0)
        session.until(("point", "b", 1))
        for name in "xpqu":
            self.assertIs(slice_of(session, name).__class__, tuple)
            self.assertIs(words_of(session, name).__class__, tuple)


class WaysTest(unittest.TestCase):
    def test_behind_branches(self):
        session = reads(3, 4, 1, 0)
        session.until(("point", "d", 0))
        self.assertEqual((words_of(session, "p"), since(session, ("word", "r", "=", 0))), ((1,), 11))
        session.to(1)
        session.branch((5, 0))
        self.assertEqual((steps_made(session), defined(session, "z")), (1, None))
        session.until(("point", "d", 0))
        self.assertEqual((words_of(session, "p"), words_of(session, "r")), ((0,), (2,)))
        self.assertEqual((since(session, ("word", "z", "=", 5)), since(session, ("word", "z", "=", 4))), (2, None))
        session.go(0)
        self.assertEqual((since(session, ("word", "z", "=", 4)), words_of(session, "y")), (None, (0,)))
        session.until(("point", "d", 0))
        self.assertEqual((since(session, ("word", "z", "=", 4)), words_of(session, "r")), (2, (3,)))

    def test_unknown_variable(self):
        session = reads(3, 4, 1, 0)
        for call in (defined, slice_of, words_of):
            for name in ("k", "a", "b", "xx"):
                self.refuse(lambda: call(session, name))
        self.refuse(lambda: since(session, ("word", "k", "=", 0)))
        self.refuse(lambda: since(session, ("word", "a", "<", 0)))

    def refuse(self, call):
        with self.assertRaises(BadArgument) as caught:
            call()
        self.assertEqual(caught.exception.reason, "variable")

    def test_questions_change_nothing(self):
        session = reads(3, 4, 1, 0)
        session.until(("point", "b", 0))
        session.back()
        before = told_by(session)
        found = answers(session, random_questions(random.Random(150), READS))
        self.assertEqual(told_by(session), before)
        self.assertEqual(answers(session, random_questions(random.Random(150), READS)), found)

    def test_rows_of_deeds_by_chance(self):
        chance = random.Random(151)
        told = {None: 0, 0: 0, 1: 0}
        for program, code, inputs, given in random_cases(152, 70, 6, 6):
            many = chance.randint(1, 8)
            session = Session(program, code, inputs, given, many)
            model = Model(program, code, inputs, given, many)
            for _ in range(15):
                deed = random_deed(chance, program, model.length())
                do(session, deed)
                do(model, deed)
                questions = random_questions(chance, program)
                found = answers(session, questions)
                self.assertEqual(found, answers_by_words(model, questions))
                for row in found[1:]:
                    told[row[1] and 1] += 1
        self.assertGreater(min(told.values()), 100, told)


if __name__ == "__main__":
    unittest.main()
