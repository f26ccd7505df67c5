import random
import unittest

from stopsheld.codetext import parse_code
from stopsheld.colours import assign
from stopsheld.errors import BadJournal, BadPaper
from stopsheld.journal import replay
from stopsheld.making import make_code
from stopsheld.reading import parse_program
from stopsheld.sessions import Session
from tests.leading import answers, do, random_deed, random_questions, told_by
from tests.samples import random_cases

PROGRAM = parse_program("block a x\njump b x\nblock b k\nw = read\nl = add k w\nbranch l b l else c\nblock c\nreturn w")
CODE = make_code(PROGRAM, assign(PROGRAM, 2))
BEGINNING = (PROGRAM, CODE, (5,), (1, 2, 3), 2)


class ReplayTest(unittest.TestCase):
    def refuse(self, text, place, beginning=BEGINNING):
        with self.assertRaises(BadJournal) as caught:
            replay(*beginning, text)
        self.assertIs(caught.exception.__class__, BadJournal)
        self.assertEqual(caught.exception.place, place, text)

    def led(self, *deeds):
        session = Session(*BEGINNING)
        for name, arguments in deeds:
            getattr(session, name)(*arguments)
        return session

    def check(self, text, *deeds):
        session = replay(*BEGINNING, text)
        self.assertIs(session.__class__, Session)
        self.assertEqual(told_by(session), told_by(self.led(*deeds)))
        self.assertEqual(session.journal(), text)

    def test_each_form_of_line(self):
        self.check("")
        self.check("forth\n", ("forth", ()))
        self.check("back\n", ("back", ()))
        self.check("forth\nforth\nto 1\nto 0\n", ("forth", ()), ("forth", ()), ("to", (1,)), ("to", (0,)))
        for sign in "=<>":
            for word in (0, 5, -1, 32767, -32768):
                condition = ("word", "k", sign, word)
                self.check(f"until k {sign} {word}\nback until k {sign} {word}\n", ("until", (condition,)),
                           ("back_until", (condition,)))
        for number in (0, 1, 7, 32767):
            condition = ("point", "b", number)
            self.check(f"until b {number}\nback until b {number}\n", ("until", (condition,)),
                       ("back_until", (condition,)))
        self.check("forth\nbranch\ngo 0\nbranch 5\ngo 1\nbranch -1 0 32767 -32768\n", ("forth", ()), ("branch", ((),)),
                   ("go", (0,)), ("branch", ((5,),)), ("go", (1,)), ("branch", ((-1, 0, 32767, -32768),)))

    def test_names_that_are_words_of_journals(self):
        program = parse_program("block until until\nback = read\njump go\nblock go\nforth = add until back\n"
                                "branch forth go else to\nblock to\nreturn forth")
        code = make_code(program, assign(program, 4))
        text = ("until until = 3\nuntil go 1\nback until until 0\nback until until > 3\nuntil back < 4\nuntil forth = 5\n"
                "until to 0\nback until back = 2\n")
        self.assertEqual(replay(program, code, (3,), (2, 4), 2, text).journal(), text)
        for line in ("until", "back until", "until until", "back until until", "until until until 0", "to until = 3",
                     "forth until go 1", "back back until go 1", "go go 1"):
            self.refuse(text + line + "\n", 9, (program, code, (3,), (2, 4), 2))

    def test_line_without_its_newline_is_not_looked_at(self):
        for last in ("forth", "nothing", " ", "to 99", "until", "fort", "branch 1 2", "until zz = 3"):
            session = replay(*BEGINNING, "forth\nforth\n" + last)
            self.assertEqual(session.journal(), "forth\nforth\n")
            self.assertEqual(told_by(session), told_by(self.led(("forth", ()), ("forth", ()))))
            self.assertEqual(told_by(replay(*BEGINNING, last)), told_by(Session(*BEGINNING)))

    def test_unknown_deeds(self):
        for line in ("nothing", "Forth", "forth back", "forth 1", "back 1", "back forth", "to", "to 0 0", "go", "go 0 0",
                     "until", "until k", "until k =", "until k = 3 4", "until b", "until b 0 0", "until 0", "back until",
                     "back until k", "back until k =", "until back k = 3", "back to 0", "stop", "until k : 3",
                     "until k == 3", "until k <= 3", "until k 3 =", "until = 3", "until b k", "until k = x", "to x",
                     "branch x", "branch 1 x 2", "branch k = 3", "go x", "back_until k = 3", "until word k = 3", "= 3",
                     "until k != 3", "0", "forth\r", "\tforth"):
            self.refuse(f"forth\n{line}\n", 2)

    def test_line_without_pieces(self):
        for line in ("", " ", "   ", "\t"):
            self.refuse(line + "\n", 1)
            self.refuse(f"forth\nforth\n{line}\nforth\n", 3)

    def test_another_writing(self):
        for line in (" forth", "forth ", "to  0", " to 0", "to 0 ", "to +0", "to 00", "to -0", "to 01", "until  k = 3",
                     "until k  = 3", "until k = 3 ", "until k = +3", "until k = 03", "until k = -0", "until k = -03",
                     "until k=3", "until k= 3", "until b 01", "until b +1", "until b 1 ", "until b -0", "back  until k = 3",
                     "back until b 00", "branch ", "branch  1", "branch 1  2", "branch 1 2 ", "branch +1", "branch 01",
                     "branch -0", "branch 1,2", "go 00", "go +0", "go  0", "go -0", "until k = \u0663", "to \u0660",
                     "to 0_0", "branch 1_0"):
            self.refuse(f"forth\nback\n{line}\n", 3)

    def test_numbers_that_are_no_words(self):
        for line in ("branch 32768", "branch -32769", "branch 1 2 99999", "until k = 32768", "until k < -32769",
                     "until b 32768", "to 32768", "go 65536", "back until k > 40000", "branch " + "9" * 5000):
            self.refuse(f"{line}\n", 1)

    def test_deeds_that_are_refused(self):
        for line in ("to 2", "to -1", "to 150", "go 1", "go -1", "go 6", "until z = 3", "until a = 3", "until x 0",
                     "back until d 0", "back until c = 0", "until abcdefg = 3", "until K = 3"):
            self.refuse(f"forth\n{line}\nforth\n", 2)
        six = "branch\n" * 5
        self.assertEqual(replay(*BEGINNING, six).timelines(), 6)
        self.refuse(six + "branch\n", 6)
        self.refuse(six + "go 5\ngo 6\n", 7)

    def test_first_line_that_is_wrong(self):
        self.refuse("forth\nto 9\nnothing\n", 2)
        self.refuse("nothing\nto 9\nforth", 1)
        self.refuse("forth\n" * 30 + "to 9999\nx\n", 31)

    def test_bad_paper_comes_first(self):
        for text in ("", "nothing\n"):
            with self.assertRaises(BadPaper) as caught:
                replay(PROGRAM, parse_code("inputs\nblock a\nreturn r0"), (5,), (1,), 2, text)
            self.assertEqual(caught.exception.reason, "inputs")

    def test_other_words_and_snapshots_of_the_beginning(self):
        text = "until c 0\nback\nback\nback\n"
        for given, many in (((-5,), 1), ((1, 2, -8), 3), ((), 8)):
            session = Session(PROGRAM, CODE, (5,), given, many)
            session.until(("point", "c", 0))
            for _ in range(3):
                session.back()
            self.assertEqual(told_by(replay(PROGRAM, CODE, (5,), given, many, text)), told_by(session))

    def test_new_each_time(self):
        one, other = replay(*BEGINNING, "forth\n"), replay(*BEGINNING, "forth\n")
        one.forth()
        one.branch(())
        self.assertEqual((other.position(), other.timelines(), other.journal()), (1, 1, "forth\n"))


class BeginningsTest(unittest.TestCase):
    def test_each_beginning_of_a_journal(self):
        chance = random.Random(161)
        refused = 0
        for program, code, inputs, given in random_cases(162, 10, 5, 5):
            beginning = (program, code, inputs, given, chance.randint(1, 8))
            questions = random_questions(chance, program)
            session = Session(*beginning)
            told = [(told_by(session), answers(session, questions))]
            for _ in range(18):
                found = do(session, random_deed(chance, program, session.length()))
                if found[0] == "refused":
                    refused += 1
                    self.assertEqual((told_by(session), answers(session, questions)), told[-1])
                else:
                    told.append((told_by(session), answers(session, questions)))
            text = session.journal()
            self.assertEqual(text.count("\n") + 1, len(told))
            for at in range(len(text) + 1):
                other = replay(*beginning, text[:at])
                expected = told[text[:at].count("\n")]
                self.assertEqual(told_by(other), expected[0])
                if text[:at].endswith("\n"):
                    self.assertEqual(answers(other, questions), expected[1])
        self.assertGreater(refused, 20)

    def test_a_session_goes_on_as_the_one_of_its_journal(self):
        chance = random.Random(163)
        for program, code, inputs, given in random_cases(164, 30, 5, 5):
            beginning = (program, code, inputs, given, chance.randint(1, 8))
            session = Session(*beginning)
            for _ in range(15):
                do(session, random_deed(chance, program, session.length()))
            other = replay(*beginning, session.journal())
            for _ in range(15):
                deed = random_deed(chance, program, session.length())
                self.assertEqual(do(session, deed), do(other, deed))
                self.assertEqual(told_by(session), told_by(other))


if __name__ == "__main__":
    unittest.main()
