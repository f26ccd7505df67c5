import random
import unittest

from stopsheld.codetext import code_text, parse_code
from stopsheld.colours import assign
from stopsheld.errors import BadCode, BadPaper
from stopsheld.listing import listing, read_listing
from stopsheld.making import make_code
from stopsheld.papers import find_paper
from stopsheld.reading import parse_program
from tests.samples import LOCATIONS, random_cases
from tests.test_reading import changed
from tests.test_stops import facts_by_words, told_by_words

SWAPS = parse_program("block a x y\njump b y x\nblock b u v\nbranch u b v u else c\nblock c\nreturn v")
SWAPS_LISTING = ("inputs r0 r1\nblock a\njump b t=r0 r0=r1 r1=t ; x@r0 y@r1\nblock b\n"
                 "branch r0 b t=r0 r0=r1 r1=t else c ; u@r0 v@r1\nblock c\nreturn r1 ; u@r0 v@r1\n")
TEXT = "inputs r0\nblock a\nr1 = add r0 r0 ; x@r0\nprint r0 ; x@r0 y@r1\nreturn r1 ; x@r0 y@r1"
CODE = (("r0",), (("a", (("op", "r1", "add", "r0", "r0"), ("print", "r0")), ("return", "r1")),))
TOLD = ((("x", "r0"),), (("x", "r0"), ("y", "r1")), (("x", "r0"), ("y", "r1")))


def listing_by_words(program, code):
    """Give the listing of a program and code by the words of l1."""
    paper = find_paper(program, code)
    left = code_text(code).split("\n")[:-1]
    found = [left.pop(0)]
    for block, (_, lines, _) in enumerate(code[1]):
        found.append(left.pop(0))
        for number in range(len(lines) + 1):
            told = told_by_words(program, facts_by_words(program, code, paper, (block, number)))
            found.append(left.pop(0) + " ;" + "".join([" " + name + "@" + location for name, location in told]))
    return "\n".join(found) + "\n"


def fault_by_words(text):
    """Give the (line, reason) with which l2 refuses a text, or None."""
    if len(text) > 6000:
        return 0, "text too long"
    lines = text.split("\n")
    try:
        parse_code("\n".join([line.split(";")[0] for line in lines]))
    except BadCode as error:
        return error.line, error.reason
    for number, line in enumerate(lines, 1):
        pieces = line.split(";")[0].split()
        if not pieces or pieces[0] in ("inputs", "block"):
            if ";" in line:
                return number, "not a listing"
            continue
        if ";" not in line:
            return number, "not a listing"
        behind = line[line.index(";") + 1:]
        pairs = [piece.split("@") for piece in behind.split(" ")[1:]]
        good = [len(pair) == 2 and pair[1] in LOCATIONS and is_name_by_words(pair[0]) for pair in pairs]
        names = [pair[0] for pair in pairs]
        if (behind and behind[0] != " ") or not all(good) or len(set(names)) != len(names):
            return number, "not a listing"
    return None


def is_name_by_words(text):
    """Tell whether a text is a name by the words of c1."""
    signs = "abcdefghijklmnopqrstuvwxyz"
    return 0 < len(text) < 7 and text[0] in signs and set(text) <= set(signs + "0123456789") and text != "else"


def fault_of(text):
    """Give the (line, reason) of the BadCode that reading a listing raises, or None."""
    try:
        read_listing(text)
    except BadCode as error:
        assert error.__class__ is BadCode
        return error.line, error.reason
    return None


class ListingTest(unittest.TestCase):
    def test_example(self):
        program = parse_program("block a x\ny = add x x\nprint x\nreturn y")
        code = make_code(program, (("x", "r0"), ("y", "r1")))
        self.assertEqual(listing(program, code), TEXT + "\n")

    def test_moves_and_loops(self):
        code = make_code(SWAPS, (("x", "r0"), ("y", "r1"), ("u", "r0"), ("v", "r1")))
        self.assertEqual(listing(SWAPS, code), SWAPS_LISTING)
        self.assertEqual(listing(SWAPS, code), listing_by_words(SWAPS, code))

    def test_lines_that_are_moves_have_their_own(self):
        program = parse_program("block a x\nprint x\nreturn x")
        code = parse_code("inputs s0\nblock a\nr1 = move s0\nprint s0\ns0 = move r2\nreturn r1")
        self.assertEqual(listing(program, code), "inputs s0\nblock a\nr1 = move s0 ; x@s0\nprint s0 ; x@r1\n"
                         "s0 = move r2 ; x@r1\nreturn r1 ; x@r1\n")

    def test_lines_at_which_nothing_is_told(self):
        program = parse_program("block a\nx = const -5\njump b\nblock b\nprint x\njump b")
        code = parse_code("inputs\nblock a\nr0 = move r0\nr0 = const -5\njump b\nblock b\nprint r0\njump b")
        self.assertEqual(listing(program, code), "inputs\nblock a\nr0 = move r0 ;\nr0 = const -5 ;\njump b ; x@r0\n"
                         "block b\nprint r0 ; x@r0\njump b ; x@r0\n")
        self.assertEqual(read_listing(listing(program, code)),
                         (code, ((), (), (("x", "r0"),), (("x", "r0"),), (("x", "r0"),))))

    def test_definition_order(self):
        program = parse_program("block a y x\nz = add y x\nprint z\nprint y\nreturn x")
        code = make_code(program, (("y", "s1"), ("x", "r5"), ("z", "r0")))
        self.assertIn("print r0 ; y@s1 x@r5 z@r0\n", listing(program, code))

    def test_bad_paper(self):
        program = parse_program("block a x y\nprint x\nreturn y")
        for text, fault in (("inputs r0\nblock a\nprint r0\nreturn r1", (None, None, "inputs")),
                            ("inputs r0 r1\nblock a\nprint r0\nreturn r0", (0, 1, "operand")),
                            ("inputs r0 r1\nblock a\nr2 = move r0\nr3 = read\nreturn r1", (0, 1, "line"))):
            with self.assertRaises(BadPaper) as caught:
                listing(program, parse_code(text))
            self.assertEqual((caught.exception.block, caught.exception.place, caught.exception.reason), fault)

    def test_by_chance(self):
        for program, code, _, _ in random_cases(131, 120, 8):
            text = listing(program, code)
            self.assertEqual(text, listing_by_words(program, code))
            paper = find_paper(program, code)
            told = []
            for block, (_, lines, _) in enumerate(code[1]):
                told.extend([told_by_words(program, facts_by_words(program, code, paper, (block, number)))
                             for number in range(len(lines) + 1)])
            for other in (text, text[:-1], "\n \n" + text.replace("\n", "\n\n  "), "  " + text.replace("\n", "\n   ")):
                self.assertEqual(read_listing(other), (code, tuple(told)))


class ReadTest(unittest.TestCase):
    def check(self, text, told=TOLD, code=CODE):
        self.assertEqual(read_listing(text), (code, told))

    def refuse(self, text, line, reason="not a listing"):
        with self.assertRaises(BadCode) as caught:
            read_listing(text)
        self.assertIs(caught.exception.__class__, BadCode)
        self.assertEqual((caught.exception.line, caught.exception.reason), (line, reason), text)

    def test_example(self):
        self.check("inputs r0\nblock a\nreturn r0 ; x@r0", ((("x", "r0"),),), (("r0",), (("a", (), ("return", "r0")),)))
        self.check(TEXT)
        self.check(TEXT + "\n")

    def test_more_spaces_ahead_and_empty_lines(self):
        self.check("\n  \n" + TEXT.replace("\n", "\n\n   ") + "\n\n")
        self.check(TEXT.replace(" = ", "   =  ").replace(" ;", "    ;"))
        self.check(TEXT.replace("block a", "block a  ").replace("inputs", "  inputs "))

    def test_no_space_ahead_of_the_sign(self):
        self.check(TEXT.replace(" ;", ";"))

    def test_any_names_and_locations_in_any_order(self):
        told = (("zz9", "t"), ("a", "s15"), ("block", "r0"), ("b", "r0"))
        self.check("inputs\nblock a\nreturn r0 ; zz9@t a@s15 block@r0 b@r0", (told,),
                   ((), (("a", (), ("return", "r0")),)))

    def test_kinds_and_new_each_time(self):
        code, told = read_listing(TEXT)
        self.assertEqual({part.__class__ for part in (code, told, told[0], told[0][0], read_listing(TEXT))}, {tuple})

    def test_line_of_a_block_without_the_sign(self):
        self.refuse(TEXT.replace("print r0 ; x@r0 y@r1", "print r0"), 4)
        self.refuse(TEXT.replace("return r1 ; x@r0 y@r1", "return r1"), 5)
        self.refuse("\n" + TEXT.replace("r1 = add r0 r0 ; x@r0", "\nr1 = add r0 r0\n"), 5)
        self.refuse(code_text(CODE), 3)

    def test_another_line_with_the_sign(self):
        self.refuse(TEXT.replace("inputs r0", "inputs r0 ;"), 1)
        self.refuse(TEXT.replace("inputs r0", "inputs r0 ; x@r0"), 1)
        self.refuse(TEXT.replace("block a", "block a ; x@r0"), 2)
        self.refuse(TEXT.replace("block a", "block a;"), 2)
        self.refuse(TEXT + "\n;", 6)
        self.refuse(TEXT + "\n ; x@r0", 6)
        self.refuse(";\n" + TEXT, 1)

    def test_text_behind_the_sign(self):
        for behind in (" ", "  ", "x@r0", " x@r0 ", " x@r0  y@r1", "  x@r0 y@r1", " x@r0\ty@r1", " x", " x@", " @r0",
                       " x@r0@r0", " x@r8", " x@s16", " x@R0", " x@y", " x@r00", " x r0", " x=r0", " x@ r0", " x @r0",
                       " X@r0", " abcdefg@r0", " else@r0", " 1@r0", " x1!@r0", " x@r0,y@r1", " x@r0 x@r1",
                       " x@r0 y@r1 x@r0", " x@r0 x@r0", " x@r0 ;", ";", " ; x@r0", " x@r0; y@r1", " x@r0 y", " r0@x",
                       " x@r0 #", "\t", " x@r0\r", " x\u0660@r0", " x@r\u0660"):
            self.refuse(TEXT.replace("print r0 ; x@r0 y@r1", "print r0 ;" + behind), 4)
        for behind in ("", " x@r0", " x@r0 y@t", " else1@r0", " y@r1 x@r0", " inputs@s10"):
            read_listing(TEXT.replace("print r0 ; x@r0 y@r1", "print r0 ;" + behind))

    def test_what_is_no_code_comes_first(self):
        self.refuse(TEXT.replace("print r0", "print r9"), 4, "not a line of code")
        self.refuse(TEXT.replace("add r0 r0 ; x@r0", "add r0 r0").replace("print r0 ;", "print ;"), 4,
                    "not a line of code")
        self.refuse(TEXT.replace("inputs r0", "inputs r0 r0 ;"), 1, "same input twice")
        self.refuse(TEXT.replace("; x@r0 y@r1", "; x@r0 x@r1") + "\nprint r0 ;", 6, "after the end")
        self.refuse("", 1, "no block")
        self.refuse(";", 1, "no block")
        self.refuse(";\n;inputs\nblock a ;", 3, "inputs expected")
        self.refuse(TEXT.replace("inputs r0\n", ";inputs r0\n"), 2, "inputs expected")
        self.refuse(TEXT.replace("return r1", "jump b"), 5, "unknown block")

    def test_only_the_first_sign_parts_a_line(self):
        self.refuse(TEXT.replace("print r0 ;", "print r0 ; ;"), 4)
        self.refuse(TEXT.replace("print r0 ;", "; print r0 ;"), 4)

    def test_first_line_comes_first(self):
        self.refuse(TEXT.replace("block a", "block a ;").replace("print r0 ; x@r0 y@r1", "print r0"), 2)
        self.refuse(TEXT.replace("add r0 r0 ; x@r0", "add r0 r0 ; x").replace("inputs r0", "\ninputs r0"), 4)

    def test_longest_text(self):
        # The names are all different; what is ahead of the sign stays short.
        pairs = [f" {first}{second}{third}@r0" for first in "abcdefghij" for second in "klmnopqrst"
                 for third in "uvwxyzabcd"]
        text = "inputs r0\nblock a\nreturn r0 ;" + "".join(pairs)[:5000 - 5000 % 7]
        for signs, told in ((6000, True), (6001, False)):
            left = signs - len(text)
            more = text.replace("r0 ;", "r0" + " " * (left - 7) + " ;") + " zzz@r0"
            self.assertEqual(len(more), signs)
            if told:
                self.assertEqual(len(read_listing(more)[1][0]), 715)
            else:
                self.refuse(more, 0, "text too long")
        self.refuse("?" * 6001, 0, "text too long")
        self.refuse("?" + ";" * 5999, 1, "not a line of code")
        self.refuse(";" * 6001, 0, "text too long")

    def test_longest_text_of_code_ahead_of_the_signs(self):
        text = "inputs r0\nblock a\nreturn r0"
        more = text + " " * (3000 - len(text))
        self.assertEqual(read_listing(more + "; x@r0")[1], ((("x", "r0"),),))
        self.refuse(more + " ; x@r0", 0, "text too long")

    def test_texts_changed_by_chance(self):
        chance = random.Random(132)
        reasons = {}
        for program, code, _, _ in random_cases(133, 150):
            text = listing(program, code)
            for many in (1, 1, 1, 1, 2, 4):
                other = text
                for _ in range(many):
                    other = changed(chance, other) if chance.random() < 0.5 else self.changed(chance, other)
                fault = fault_by_words(other)
                self.assertEqual(fault_of(other), fault, other)
                reason = fault and fault[1]
                reasons[reason] = reasons.get(reason, 0) + 1
        self.assertGreater(len(reasons), 8, reasons)
        self.assertGreater(min(reasons["not a listing"], reasons[None]), 50, reasons)

    def changed(self, chance, text):
        """Give a text with one sign less, more, or another one, of those that matter here."""
        at = chance.randrange(len(text) + 1)
        return text[:at] + chance.choice(("", ";", " ;", "@", " ", "x", " x@r0", "\n")) + text[at + chance.randrange(2):]

    def test_made_code_of_the_interface(self):
        program = parse_program("block a n\none = const 1\njump b n one\nblock b k p\nq = mul p k\nl = sub k one\n"
                                "branch l b l q else c\nblock c\nreturn q")
        text = listing(program, make_code(program, assign(program, 4)))
        self.assertEqual(text.split("\n")[5], "r2 = mul r2 r0 ; one@r1 k@r0 p@r2")
        self.assertEqual(read_listing(text)[0], make_code(program, assign(program, 4)))


if __name__ == "__main__":
    unittest.main()
