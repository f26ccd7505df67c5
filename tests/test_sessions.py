import random
import unittest

from stopsheld.codetext import parse_code
from stopsheld.colours import assign
from stopsheld.errors import BadArgument, BadPaper
from stopsheld.living import live_at, live_into
from stopsheld.machine import first
from stopsheld.making import make_code
from stopsheld.reading import parse_program
from stopsheld.sessions import Session
from tests.leading import METHODS, Model, do, random_deed, told_by
from tests.samples import LOOP_TEXT, goes_to, random_cases
from tests.test_colours import assignment_of

LOOP = parse_program(LOOP_TEXT)
LOOP_CODE = make_code(LOOP, assign(LOOP, 4))
READS = parse_program("block a x\ny = read\njump b y x\nblock b u v\nprint u\nw = add u v\nreturn w")
READS_CODE = make_code(READS, assignment_of("x=r0 y=r1 u=r0 v=r1 w=r0"))
# Nothing is read; 2 ticks each time around.
ENDLESS = parse_program("block a x\njump b x\nblock b k\nl = add k x\njump b l")
ENDLESS_CODE = make_code(ENDLESS, assignment_of("x=r0 k=r1 l=r1"))
ECHO = parse_program("block a\njump b\nblock b\nw = read\nprint w\njump b")
ECHO_CODE = make_code(ECHO, assignment_of("w=r0"))


def endless(many, length=0, inputs=(1,)):
    """Give a session of the endless program, so many ticks long."""
    session = Session(ENDLESS, ENDLESS_CODE, inputs, (), many)
    for _ in range(length):
        assert session.forth() == "moved"
    return session


class Deeds(unittest.TestCase):
    def refuse(self, session, reason, name, *arguments):
        before = told_by(session)
        with self.assertRaises(BadArgument) as caught:
            getattr(session, name)(*arguments)
        self.assertIs(caught.exception.__class__, BadArgument)
        self.assertEqual(caught.exception.reason, reason)
        self.assertEqual(told_by(session), before)

    def cost(self, session, expected, name, *arguments):
        """Check how many ticks a deed makes."""
        before = session.ticks()
        getattr(session, name)(*arguments)
        self.assertEqual(session.ticks() - before, expected)


class BeginningTest(Deeds):
    def test_at_the_beginning(self):
        session = Session(READS, READS_CODE, (5,), (7,), 2)
        self.assertEqual(told_by(session), [0, 0, 0, 1, (0,), 0, ((0, 0), (0, 0), (("x", 5),), (), 0),
                                            first(READS_CODE, (5,)), ""])

    def test_bad_paper(self):
        for text, fault in (("inputs\nblock a\nreturn r0", (None, None, "inputs")),
                            ("inputs r0\nblock c\nreturn r0", (None, None, "blocks")),
                            ("inputs r0\nblock a\nr1 = read\nr0 = move r1\njump b\nblock b\nprint r0\nr1 = add r0 r1\n"
                             "return r1", (0, 2, "edge")),
                            ("inputs r0\nblock a\nr1 = read\njump b\nblock b\nprint r1\nr1 = add r1 r1\nreturn r1",
                             (1, 1, "operand"))):
            with self.assertRaises(BadPaper) as caught:
                Session(READS, parse_code(text), (5,), (), 2)
            self.assertEqual((caught.exception.block, caught.exception.place, caught.exception.reason), fault)

    def test_example(self):
        session = Session(READS, READS_CODE, (5,), (7,), 2)
        self.assertEqual(session.until(("point", "b", 1)), "holds")
        self.assertEqual((session.position(), session.stop()),
                         (6, ((1, 1), (1, 1), (("x", 5), ("y", 7), ("u", 7), ("v", 5)), (7,), 1)))
        self.assertEqual((session.back(), session.back()), ("moved", "moved"))
        self.assertEqual(session.stop()[0], (0, 1, 0, 2))
        self.assertEqual(session.stop()[2], (("x", 5), ("y", 7)))
        self.assertEqual(session.snapshots(), (0, 4))

    def test_example_of_the_whole(self):
        session = Session(LOOP, LOOP_CODE, (3,), (), 4)
        self.assertEqual(session.until(("word", "q", "=", 6)), "holds")
        self.assertEqual((session.stop()[1], dict(session.stop()[2])["k"]), ((1, 1), 2))

    def test_sessions_have_nothing_to_do_with_one_another(self):
        one, other = endless(2), endless(2)
        one.forth()
        one.branch((1,))
        self.assertEqual(told_by(other), told_by(endless(2)))


class ForthTest(Deeds):
    def test_forth_and_back(self):
        session = Session(READS, READS_CODE, (5,), (7,), 8)
        places = [(0, 0), (0, 1), (0, 1, 0, 0), (0, 1, 0, 1), (0, 1, 0, 2), (1, 0), (1, 1), (1, 2), None]
        for number, place in enumerate(places[1:], 1):
            self.assertEqual((session.forth(), session.position(), session.length()), ("moved", number, number))
            self.assertEqual((session.state()[0], session.stop()[0]), (place, place))
        self.assertEqual((session.forth(), session.position(), session.length()), ("returned", 8, 8))
        for number, place in reversed(list(enumerate(places[:-1]))):
            self.assertEqual((session.back(), session.position(), session.length()), ("moved", number, 8))
            self.assertEqual(session.stop()[0], place)
        self.assertEqual((session.back(), session.position()), ("beginning", 0))
        self.assertEqual((session.forth(), session.position(), session.length()), ("moved", 1, 8))

    def test_behind_a_return_nothing_is_told(self):
        session = Session(READS, READS_CODE, (5,), (7,), 3)
        self.assertEqual(session.until(("word", "w", "=", 99)), "returned")
        self.assertEqual(session.stop(), (None, None, (), (7,), 1))
        self.assertEqual(session.state()[0], None)
        self.assertEqual(dict(session.state()[1])["r0"], 12)

    def test_waiting(self):
        session = Session(READS, READS_CODE, (5,), (), 3)
        self.assertEqual((session.forth(), session.position(), session.length()), ("waiting", 0, 0))
        self.assertEqual((session.ticks(), session.until(("word", "x", "=", 5))), (0, "waiting"))
        session = Session(ECHO, ECHO_CODE, (), (4, 5), 3)
        self.assertEqual([session.forth() for _ in range(9)], ["moved"] * 7 + ["waiting"] * 2)
        self.assertEqual(session.stop(), ((1, 0), (1, 0), (), (4, 5), 2))

    def test_a_read_behind_recorded_ticks_does_not_wait(self):
        session = Session(ECHO, ECHO_CODE, (), (4,), 3)
        self.assertEqual(session.until(("word", "w", "=", 9)), "waiting")
        session.to(1)
        self.assertEqual((session.forth(), session.stop()[2]), ("moved", (("w", 4),)))

    def test_limit(self):
        session = endless(4, 150)
        self.assertEqual((session.forth(), session.position(), session.length()), ("limit", 150, 150))
        self.assertEqual((session.ticks(), session.until(("word", "x", "=", 1))), (150, "limit"))
        self.assertEqual((session.back(), session.forth(), session.forth()), ("moved", "moved", "limit"))
        session.branch(())
        self.assertEqual((session.forth(), session.length()), ("limit", 150))
        session.to(149)
        session.branch(())
        self.assertEqual((session.forth(), session.forth(), session.length()), ("moved", "limit", 150))

    def straight(self, prints, end):
        """Give the session of a program of so many ticks and then an end of one."""
        program = parse_program("block a x\njump b\nblock b\n" + "print x\n" * prints + end)
        return Session(program, make_code(program, assign(program, 4)), (1,), (), 2)

    def test_limit_returned_and_waiting_together(self):
        session = self.straight(148, "return x")
        self.assertEqual([session.forth() for _ in range(151)], ["moved"] * 150 + ["returned"])
        session = self.straight(149, "return x")
        self.assertEqual([session.forth() for _ in range(151)], ["moved"] * 150 + ["limit"])
        session = self.straight(149, "y = read\nreturn x")
        self.assertEqual([session.forth() for _ in range(151)], ["moved"] * 150 + ["limit"])
        session = self.straight(148, "y = read\nreturn x")
        self.assertEqual([session.forth() for _ in range(151)], ["moved"] * 149 + ["waiting"] * 2)

    def test_to(self):
        session = endless(2, 9)
        for position in (0, 9, 4, 5, 5, 1, 8, 0, 0):
            self.assertEqual((session.to(position), session.position(), session.length()), ("moved", position, 9))
            self.assertEqual(session.state(), endless(2, position).state())
        for position in (10, 11, 150, 9999, -1, -9):
            self.refuse(session, "position", "to", position)
        self.refuse(endless(2), "position", "to", 1)
        self.assertEqual(endless(2).to(0), "moved")

    def test_to_behind_a_return(self):
        session = Session(READS, READS_CODE, (5,), (7,), 1)
        session.until(("point", "b", 9))
        session.to(3)
        session.to(8)
        self.assertEqual((session.stop()[0], session.forth()), (None, "returned"))


class ConditionsTest(Deeds):
    def test_signs(self):
        for sign, word, expected in (("=", 3, 3), ("=", 1, 1), ("<", 3, 1), ("<", 1, None), (">", 3, 4), (">", -9, 1),
                                     (">", 0, 1), (">", 1, 2)):
            session = endless(4)
            told = session.until(("word", "k", sign, word))
            self.assertEqual(told, "limit" if expected is None else "holds", (sign, word))
            if expected is not None:
                self.assertEqual(dict(session.stop()[2])["k"], expected)

    def test_near_the_bounds(self):
        session = endless(4, 0, (-32768,))
        self.assertEqual(session.until(("word", "k", "=", -32768)), "holds")
        session = endless(4, 0, (32767,))
        self.assertEqual((session.until(("word", "k", "<", 32767)), dict(session.stop()[2])["k"]), ("holds", -2))
        self.assertEqual(session.until(("word", "k", ">", 32767)), "limit")

    def test_one_tick_at_least_is_made(self):
        session = endless(4)
        for number in (1, 2, 3):
            self.assertEqual((session.until(("word", "x", "=", 1)), session.position()), ("holds", number))
        self.assertEqual((session.back_until(("word", "x", "=", 1)), session.position()), ("holds", 2))
        self.assertEqual((session.until(("point", "b", 0)), session.position()), ("holds", 4))
        self.assertEqual((session.until(("point", "b", 0)), session.position()), ("holds", 6))
        self.assertEqual((session.back_until(("point", "b", 0)), session.position()), ("holds", 4))

    def test_variable_that_is_not_told(self):
        # x is in r0 alone; once it is written nothing tells x, whatever the word in r0 is.
        program = parse_program("block a x\nprint x\ny = read\nprint y\nreturn y")
        code = make_code(program, assignment_of("x=r0 y=r0"))
        session = Session(program, code, (5,), (5,), 3)
        self.assertEqual((session.until(("word", "y", ">", -9)), session.position()), ("holds", 2))
        self.assertEqual((session.until(("word", "x", "=", 5)), session.position()), ("returned", 4))
        self.assertEqual((session.back_until(("word", "x", "=", 5)), session.position()), ("holds", 1))
        session = Session(program, code, (5,), (5,), 3)
        self.assertEqual((session.until(("word", "y", "<", 5)), session.position()), ("returned", 4))

    def test_nothing_holds_behind_a_return(self):
        session = Session(READS, READS_CODE, (5,), (7,), 3)
        self.assertEqual(session.until(("word", "w", ">", 12)), "returned")
        self.assertEqual(session.until(("word", "w", "=", 12)), "returned")
        self.assertEqual((session.back_until(("word", "w", "=", 12)), session.position()), ("holds", 7))

    def test_amid_an_edge_a_word_condition_can_hold_and_a_point_does_not(self):
        session = Session(READS, READS_CODE, (5,), (7,), 3)
        self.assertEqual((session.until(("point", "a", 1)), session.position()), ("holds", 1))
        self.assertEqual((session.until(("point", "a", 1)), session.position()), ("returned", 8))
        self.assertEqual((session.back_until(("point", "a", 1)), session.position()), ("holds", 1))
        self.assertEqual((session.until(("word", "y", "=", 7)), session.position()), ("holds", 2))
        self.assertEqual((session.until(("word", "u", "=", 7)), session.position()), ("holds", 5))

    def test_places_ahead_of_moves_have_the_point_too(self):
        program = parse_program("block a x\nprint x\nprint x\nreturn x")
        code = parse_code("inputs r0\nblock a\nprint r0\nr1 = move r0\nr2 = move r0\nprint r1\nreturn r2")
        session = Session(program, code, (5,), (), 3)
        self.assertEqual([session.until(("point", "a", 1)) for _ in range(4)], ["holds"] * 3 + ["returned"])
        self.assertEqual([(session.back_until(("point", "a", 1)), session.position()) for _ in range(3)],
                         [("holds", 3), ("holds", 2), ("holds", 1)])
        self.assertEqual((session.until(("point", "a", 2)), session.position()), ("holds", 4))

    def test_point_that_no_place_has(self):
        for point in (("point", "b", 9), ("point", "b", 32767), ("point", "a", 0)):
            session = Session(READS, READS_CODE, (5,), (7,), 3)
            self.assertEqual((session.until(point), session.position()), ("returned", 8))

    def test_back_until(self):
        session = endless(2, 21)
        self.assertEqual((session.back_until(("word", "k", "<", 5)), session.stop()[1], dict(session.stop()[2])["k"]),
                         ("holds", (1, 0), 4))
        self.assertEqual((session.back_until(("word", "k", ">", 10)), session.position()), ("beginning", 0))
        self.assertEqual((session.back_until(("word", "x", "=", 1)), session.position()), ("beginning", 0))
        session.to(3)
        self.assertEqual((session.back_until(("point", "a", 0)), session.position(), session.length()),
                         ("holds", 0, 21))

    def test_unknown_variable_or_block(self):
        session = endless(2, 3)
        for name in ("until", "back_until"):
            for condition in (("word", "z", "=", 1), ("word", "a", "=", 1), ("word", "b", "<", 1), ("point", "c", 0),
                              ("point", "k", 0), ("point", "x", 1)):
                self.refuse(session, "condition", name, condition)


class SnapshotsTest(Deeds):
    def test_interval_is_doubled(self):
        told = {1: [(0,), (0, 1), (0, 2), (0, 2), (0, 4), (0, 4), (0, 4), (0, 4), (0, 8), (0, 8)],
                2: [(0,), (0, 1), (0, 1, 2), (0, 2), (0, 2, 4), (0, 2, 4), (0, 4), (0, 4), (0, 4, 8), (0, 4, 8)],
                3: [(0,), (0, 1), (0, 1, 2), (0, 1, 2, 3), (0, 2, 4), (0, 2, 4), (0, 2, 4, 6), (0, 2, 4, 6), (0, 4, 8),
                    (0, 4, 8)],
                8: [tuple(range(number)) for number in range(1, 10)] + [(0, 2, 4, 6, 8)]}
        for many, rows in told.items():
            for length, expected in enumerate(rows):
                self.assertEqual(endless(many, length).snapshots(), expected, (many, length))

    def test_whole_timelines(self):
        for many, interval in ((1, 128), (2, 64), (3, 64), (4, 32), (5, 32), (7, 32), (8, 32)):
            self.assertEqual(endless(many, 150).snapshots(), tuple(range(0, 151, interval)), many)
        self.assertEqual(endless(8, 143).snapshots(), tuple(range(0, 143, 16)))

    def test_recorded_ticks_make_no_snapshots(self):
        session = endless(2, 5)
        for deed in (("to", 0), ("forth",), ("forth",), ("to", 3), ("back",), ("to", 5)):
            getattr(session, deed[0])(*deed[1:])
            self.assertEqual(session.snapshots(), (0, 2, 4))
        session.forth()
        self.assertEqual(session.snapshots(), (0, 4))

    def test_ticks_of_new_ones(self):
        for length in (0, 1, 7, 150):
            self.assertEqual(endless(3, length).ticks(), length)

    def test_ticks_of_going_to_a_position(self):
        session = endless(2, 15)
        self.assertEqual(session.snapshots(), (0, 8))
        self.cost(session, 0, "to", 15)
        self.cost(session, 6, "to", 14)
        self.cost(session, 0, "to", 8)
        self.cost(session, 7, "to", 7)
        self.cost(session, 0, "to", 7)
        self.cost(session, 3, "to", 3)
        self.cost(session, 3, "to", 6)
        # The snapshot at 8 is later than the present moment, and at 10 the present moment is later than it.
        self.cost(session, 2, "to", 10)
        self.cost(session, 2, "to", 12)
        self.cost(session, 3, "to", 11)
        self.cost(session, 0, "to", 0)
        self.cost(session, 7, "to", 15)

    def test_ticks_of_forth_and_back(self):
        session = endless(2, 15)
        self.cost(session, 6, "back")
        self.cost(session, 5, "back")
        session.to(9)
        self.cost(session, 0, "back")
        self.cost(session, 7, "back")
        self.cost(session, 0, "forth")
        self.cost(session, 1, "forth")
        self.cost(session, 1, "forth")
        session.to(1)
        self.cost(session, 0, "back")
        self.cost(session, 0, "back")
        self.cost(session, 1, "forth")
        session.to(15)
        self.cost(session, 1, "forth")

    def test_ticks_of_nothing_that_moves(self):
        session = endless(2, 150)
        self.cost(session, 0, "forth")
        session = Session(ECHO, ECHO_CODE, (), (), 2)
        session.forth()
        self.cost(session, 0, "forth")
        self.cost(session, 0, "back")
        self.cost(session, 0, "back")

    def test_ticks_of_until(self):
        session = endless(2, 15)
        session.to(5)
        # 6 and 7 are made again, 8 is a snapshot, and those behind it are made again; 16 to 18 are new.
        before = session.ticks()
        self.assertEqual((session.until(("word", "k", "=", 7)), session.position()), ("holds", 14))
        self.assertEqual(session.ticks() - before, 2 + 0 + 6)
        session.to(5)
        before = session.ticks()
        self.assertEqual((session.until(("word", "k", "=", 9)), session.position()), ("holds", 18))
        self.assertEqual(session.ticks() - before, 2 + 0 + 7 + 3)
        session.to(17)
        before = session.ticks()
        self.assertEqual((session.until(("word", "k", ">", 500)), session.position()), ("limit", 150))
        self.assertEqual(session.ticks() - before, 1 + 132)

    def test_ticks_of_back_until(self):
        session = endless(2, 15)
        session.to(11)
        before = session.ticks()
        self.assertEqual((session.back_until(("word", "k", "=", 2)), session.position()), ("holds", 4))
        self.assertEqual(session.ticks() - before, 2 + 1 + 0 + 7 + 6 + 5 + 4)
        before = session.ticks()
        self.assertEqual(session.back_until(("word", "k", "=", 9)), "beginning")
        self.assertEqual(session.ticks() - before, 3 + 2 + 1 + 0)

    def test_with_the_snapshot_at_the_beginning_alone(self):
        session = endless(1, 2)
        self.assertEqual(session.snapshots(), (0, 2))
        session.to(1)
        self.cost(session, 0, "to", 2)
        self.cost(session, 1, "back")
        self.cost(session, 0, "back")


class TimelinesTest(Deeds):
    def echo(self, *given):
        session = Session(ECHO, ECHO_CODE, (), given, 2)
        session.until(("word", "w", "=", 99))
        return session

    def test_branch_amid_a_timeline(self):
        session = self.echo(4, 5, 6)
        self.assertEqual((session.length(), session.stop()[3:]), (10, ((4, 5, 6), 3)))
        session.to(6)
        before = session.ticks()
        self.assertEqual(session.branch((7, 8)), "moved")
        self.assertEqual((session.timeline(), session.timelines(), session.position(), session.length()), (1, 2, 6, 6))
        self.assertEqual((session.ticks(), session.stop()), (before, ((1, 2), (1, 2), (("w", 5),), (4, 5), 2)))
        self.assertEqual(session.until(("word", "w", "=", 99)), "waiting")
        self.assertEqual((session.length(), session.stop()[3:]), (13, ((4, 5, 7, 8), 4)))
        session.to(2)
        self.assertEqual(session.stop()[2:], ((("w", 4),), (), 1))

    def test_branch_at_the_beginning_and_at_the_end(self):
        session = self.echo(4)
        session.branch((5,))
        self.assertEqual(session.until(("word", "w", "=", 99)), "waiting")
        self.assertEqual(session.stop()[3:], ((4, 5), 2))
        session.to(0)
        session.branch((6, 7))
        self.assertEqual((session.length(), session.until(("word", "w", "=", 99))), (0, "waiting"))
        self.assertEqual((session.timeline(), session.stop()[3:]), (2, ((6, 7), 2)))

    def test_branch_without_words(self):
        session = self.echo(4, 5, 6)
        session.to(2)
        session.branch(())
        self.assertEqual(session.until(("word", "w", "=", 99)), "waiting")
        self.assertEqual((session.length(), session.stop()[3:]), (4, ((4,), 1)))
        session.branch((9,))
        self.assertEqual((session.until(("word", "w", "=", 99)), session.stop()[3:]), ("waiting", ((4, 9), 2)))

    def test_branch_behind_a_return(self):
        session = Session(READS, READS_CODE, (5,), (7,), 2)
        session.until(("point", "b", 9))
        session.branch((1,))
        self.assertEqual((session.forth(), session.stop(), session.length()),
                         ("returned", (None, None, (), (7,), 1), 8))
        session.to(0)
        session.branch((1,))
        self.assertEqual((session.until(("word", "w", "=", 6)), session.stop()[3:]), ("holds", ((1,), 1)))

    def test_words_that_were_not_read_are_left_behind(self):
        session = Session(ECHO, ECHO_CODE, (), (1, 2, 3, 4), 2)
        session.to(0)
        session.branch((9,))
        self.assertEqual((session.until(("word", "w", "=", 1)), session.stop()[3:]), ("waiting", ((9,), 1)))

    def test_snapshots_and_interval_are_those_of_the_old_one(self):
        session = endless(2, 15)
        self.assertEqual(session.snapshots(), (0, 8))
        session.to(9)
        session.branch(())
        self.assertEqual(session.snapshots(), (0, 8))
        session.to(7)
        session.branch(())
        self.assertEqual(session.snapshots(), (0,))
        # The interval is 8 as it was.
        session.forth()
        self.assertEqual(session.snapshots(), (0, 8))
        for _ in range(7):
            session.forth()
        self.assertEqual((session.position(), session.snapshots()), (15, (0, 8)))
        session.forth()
        self.assertEqual(session.snapshots(), (0, 8, 16))
        session.go(0)
        self.assertEqual(session.snapshots(), (0, 8))
        session.go(1)
        self.assertEqual((session.length(), session.snapshots()), (9, (0, 8)))

    def test_branch_at_a_snapshot_keeps_it(self):
        session = endless(2, 9)
        session.to(8)
        session.branch(())
        self.assertEqual(session.snapshots(), (0, 4, 8))
        session.to(4)
        session.branch(())
        self.assertEqual(session.snapshots(), (0, 4))

    def test_go_to_where_it_was_left(self):
        session = self.echo(4, 5, 6)
        session.to(7)
        session.branch((1, 2, 3))
        session.until(("word", "w", "=", 2))
        session.back()
        there = session.position()
        for timeline, position, length in ((0, 7, 10), (1, there, there + 1), (1, there, there + 1), (0, 7, 10)):
            before = session.ticks()
            self.assertEqual(session.go(timeline), "moved")
            self.assertEqual((session.timeline(), session.position(), session.length()), (timeline, position, length))
            self.assertEqual(session.ticks(), before)

    def test_present_moment_of_each_timeline_counts_for_its_ticks(self):
        session = endless(1, 7)
        self.assertEqual(session.snapshots(), (0, 4))
        session.branch(())
        session.to(0)
        session.go(0)
        self.cost(session, 2, "to", 6)
        session.go(1)
        self.cost(session, 3, "to", 3)
        session.go(0)
        self.cost(session, 1, "to", 7)

    def test_ticks_are_counted_over_all_timelines(self):
        session = endless(2, 3)
        session.branch(())
        self.assertEqual(session.ticks(), 3)
        session.forth()
        session.go(0)
        session.forth()
        session.forth()
        self.assertEqual(session.ticks(), 6)
        session.go(1)
        self.assertEqual(session.ticks(), 6)

    def test_seventh_timeline(self):
        session = endless(2, 3)
        for number in range(1, 6):
            self.assertEqual((session.branch((1,)), session.timelines()), ("moved", number + 1))
        for given in ((), (1, 2)):
            self.refuse(session, "timelines", "branch", given)
        session.go(0)
        self.refuse(session, "timelines", "branch", ())

    def test_timeline_that_there_is_not(self):
        session = endless(2, 3)
        for number in (1, 2, 5, 6, 99, -1):
            self.refuse(session, "timeline", "go", number)
        session.branch(())
        for number in (2, -1, -2):
            self.refuse(session, "timeline", "go", number)
        self.assertEqual((session.go(1), session.go(0), session.go(0)), ("moved",) * 3)


class JournalTest(Deeds):
    def test_each_form_of_line(self):
        session = endless(2)
        session.forth()
        session.until(("word", "k", "=", 2))
        session.until(("word", "k", ">", -5))
        session.until(("point", "b", 1))
        session.back()
        session.back_until(("word", "k", "<", 2))
        session.back_until(("point", "a", 0))
        session.to(2)
        session.branch((1, -2, 32767, 0))
        session.branch(())
        session.go(0)
        self.assertEqual(session.journal(), "forth\nuntil k = 2\nuntil k > -5\nuntil b 1\nback\nback until k < 2\n"
                         "back until a 0\nto 2\nbranch 1 -2 32767 0\nbranch\ngo 0\n")

    def test_deeds_that_move_nothing_have_lines_and_refused_ones_have_none(self):
        session = Session(ECHO, ECHO_CODE, (), (), 2)
        session.back()
        session.forth()
        session.forth()
        session.until(("word", "w", "=", 1))
        session.back_until(("point", "b", 30000))
        self.refuse(session, "position", "to", 2)
        self.refuse(session, "timeline", "go", 1)
        self.refuse(session, "condition", "until", ("word", "b", "=", 1))
        session.back_until(("point", "b", 0))
        self.assertEqual(session.journal(), "back\nforth\nforth\nuntil w = 1\nback until b 30000\nback until b 0\n")

    def test_questions_about_the_session_have_no_lines(self):
        session = endless(2, 1)
        told_by(session)
        self.assertEqual(session.journal(), "forth\n")


class ReferenceTest(unittest.TestCase):
    def test_rows_of_deeds_by_chance(self):
        chance = random.Random(141)
        told = {}
        for program, code, inputs, given in random_cases(142, 120, 6, 8):
            many = chance.randint(1, 8)
            session = Session(program, code, inputs, given, many)
            model = Model(program, code, inputs, given, many)
            for _ in range(40):
                deed = random_deed(chance, program, model.length())
                found = do(session, deed)
                self.assertEqual(found, do(model, deed), deed)
                self.assertEqual(told_by(session), told_by(model), deed)
                told[found] = told.get(found, 0) + 1
        self.assertEqual(len(told), 10, told)
        self.assertGreater(min(told.values()), 20, told)

    def test_what_is_told_does_not_depend_on_ways_nor_on_snapshots(self):
        chance = random.Random(143)
        for program, code, inputs, given in random_cases(144, 40, 6, 8):
            straight = Session(program, code, inputs, given, 1)
            stops = [(straight.stop(), straight.state())]
            while straight.forth() == "moved":
                stops.append((straight.stop(), straight.state()))
            for many in (1, 2, 5, 8):
                session = Session(program, code, inputs, given, many)
                for _ in range(25):
                    do(session, random_deed(chance, program, session.length()))
                    if session.timeline() == 0:
                        self.assertEqual((session.stop(), session.state()), stops[session.position()])

    def test_each_stop_tells_the_values_of_the_program(self):
        chance = random.Random(145)
        many, branched = 0, 0
        for program, code, inputs, given in random_cases(146, 80, 6, 8):
            session = Session(program, code, inputs, given, chance.randint(1, 8))
            model = Model(program, code, inputs, given, 1)
            for _ in range(25):
                deed = random_deed(chance, program, session.length())
                do(session, deed)
                do(model, deed)
                place, point, told, output, reads = session.stop()
                state = model.states()[-1]
                self.assertEqual((point, output, reads), (state[0], state[2], state[3]))
                if place is None:
                    continue
                self.assertEqual([value for _, value in told], [dict(state[1])[name] for name, _ in told])
                amid = len(place) == 4
                needed = live_into(program, goes_to(program, place[0])[place[2]]) if amid else live_at(program, point)
                self.assertLessEqual(set(needed), {name for name, _ in told})
                many += len(told)
                branched += session.timeline() > 0
        self.assertGreater(many, 2000)
        self.assertGreater(branched, 500)

    def test_kinds(self):
        session = Session(READS, READS_CODE, (5,), (7,), 2)
        session.forth()
        told = dict(zip(METHODS, told_by(session)))
        self.assertEqual([told[name].__class__ for name in METHODS], [int] * 4 + [tuple, int, tuple, tuple, str])
        self.assertEqual([part.__class__ for part in session.stop()], [tuple, tuple, tuple, tuple, int])
        self.assertEqual({pair.__class__ for pair in session.stop()[2]}, {tuple})


if __name__ == "__main__":
    unittest.main()
