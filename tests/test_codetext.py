import itertools
import random
import unittest

from stopsheld.codetext import code_text, parse_code
from stopsheld.errors import BadCode
from tests.samples import LOCATIONS, random_code
from tests.test_reading import NAME, NUMBER, changed, line_by_words

NO_LOCATIONS = ("r8", "r9", "r10", "r01", "r00", "r", "r-1", "R0", "r0x", "s16", "s17", "s20", "s100", "s00", "s01",
                "s015", "s", "S0", "s-1", "T", "tt", "t0", "x", "0", "else", "q0", "", "r0=", "=r0", "r\u0660",
                "s\u0661", "r\u00b2", "r0\t", "\tr0", "t\r", "r0,")


class Refusals(unittest.TestCase):
    def refuse(self, text, line, reason):
        with self.assertRaises(BadCode) as caught:
            parse_code(text)
        self.assertIs(caught.exception.__class__, BadCode)
        self.assertEqual((caught.exception.line, caught.exception.reason), (line, reason), text)


class FormsTest(Refusals):
    def line(self, line, shape):
        code = parse_code(f"inputs\nblock a\n{line}\njump b\nblock b\njump b")
        self.assertEqual(code, ((), (("a", (shape,), ("jump", "b", ())), ("b", (), ("jump", "b", ())))), line)

    def end(self, line, shape):
        code = parse_code(f"inputs\nblock a\n{line}\nblock b\njump b\nblock c\njump b")
        self.assertEqual(code, ((), (("a", (), shape), ("b", (), ("jump", "b", ())), ("c", (), ("jump", "b", ())))),
                         line)

    def none(self, *lines):
        for line in lines:
            self.refuse(f"inputs\nblock a\n{line}\nreturn r0", 3, "not a line of code")

    def test_inputs(self):
        for many in range(5):
            row = ("s15", "r0", "t", "r7")[:many]
            code = parse_code(f"inputs {' '.join(row)}\nblock a\nreturn r0")
            self.assertEqual(code, (row, (("a", (), ("return", "r0")),)))
        self.assertEqual(parse_code("inputs " + " ".join(LOCATIONS) + "\nblock a\nreturn r0")[0], tuple(LOCATIONS))
        for location in NO_LOCATIONS:
            if location:
                self.refuse(f"inputs r0 {location}\nblock a\nreturn r0", 1, "not a line of code")
        self.refuse("Inputs r0\nblock a\nreturn r0", 1, "not a line of code")
        self.refuse("inputs r0=r1\nblock a\nreturn r0", 1, "not a line of code")

    def test_block(self):
        self.assertEqual(parse_code("inputs\nblock block\nreturn r0"), ((), (("block", (), ("return", "r0")),)))
        self.assertEqual(parse_code("inputs\nblock r0\nreturn r0"), ((), (("r0", (), ("return", "r0")),)))
        self.none("block", "block b r0", "block B", "block else", "block abcdefg", "block 1", "block a x", "Block b")

    def test_const(self):
        for number in (0, 5, -5, 32767, -32768):
            self.line(f"r0 = const {number}", ("const", "r0", number))
        self.none("r0 = const", "r0 = const r1", "r0 = const 5 6", "r0 = const 32768", "r0 = const -32769",
                  "r0 = const -0", "r0 = const 01", "r0 = const +1", "r0 = const \u0661", "r0 = 5", "const r0 5",
                  "r0 =const 5", "= const 5", "r0 = const " + "9" * 2000)

    def test_operations(self):
        for operation in ("add", "sub", "mul", "less", "equal"):
            self.line(f"s1 = {operation} r0 t", ("op", "s1", operation, "r0", "t"))
            self.none(f"s1 = {operation}", f"s1 = {operation} r0", f"s1 = {operation} r0 t r1", f"s1 {operation} r0 t",
                      f"s1 = {operation} 1 r0", f"s1 = {operation} r0 x", f"{operation} = {operation} r0 t")
        self.none("s1 = div r0 t", "s1 = op add r0 t", "s1 = r0", "s1 = r0 + t")

    def test_read(self):
        self.line("t = read", ("read", "t"))
        self.none("t = read r0", "read t", "t read", "read = read", "t = reads", "t =", "=", "= = read")

    def test_move(self):
        self.line("r0 = move s4", ("move", "r0", "s4"))
        self.line("r0 = move r0", ("move", "r0", "r0"))
        self.line("t = move r1", ("move", "t", "r1"))
        self.none("r0 = move", "r0 = move x", "r0 = move r1 r2", "r0 = move 5", "x = move r0", "move r0 r1",
                  "r0 move r1", "move = move r0", "r0=r1", "r0 = r1", "r0 = Move r1")

    def test_print(self):
        self.line("print s0", ("print", "s0"))
        self.line("print t", ("print", "t"))
        self.none("print", "print r0 r1", "print x", "print 5", "Print r0", "print r0=r1")

    def test_return(self):
        self.end("return s15", ("return", "s15"))
        self.none("return", "return r0 r1", "return x", "return 0", "Return r0", "return r0=r1")

    def test_jump(self):
        self.end("jump b", ("jump", "b", ()))
        self.end("jump b r0=s0 t=r0 r0=r0 r0=t", ("jump", "b", (("r0", "s0"), ("t", "r0"), ("r0", "r0"), ("r0", "t"))))
        self.none("jump", "jump B", "jump else", "jump r0=r1", "jump b r0", "jump b r0 r1", "jump b r0 = r1",
                  "jump b r0= r1", "jump b r0 =r1", "jump b r0=", "jump b =r1", "jump b =", "jump b r0=r1=r2",
                  "jump b r0==r1", "jump b r0=x", "jump b x=r0", "jump b r0=r1,r1=r0", "jump b r0=r1 else",
                  "jump b r0=r1 else c", "jump b r0=5")

    def test_branch(self):
        self.end("branch r0 b else c", ("branch", "r0", "b", (), "c", ()))
        self.end("branch t b r0=r1 r1=r0 else b s0=t",
                 ("branch", "t", "b", (("r0", "r1"), ("r1", "r0")), "b", (("s0", "t"),)))
        self.end("branch r0 c else b r0=r1", ("branch", "r0", "c", (), "b", (("r0", "r1"),)))
        self.none("branch", "branch r0", "branch r0 b", "branch r0 b c", "branch r0 b else", "branch r0 else c",
                  "branch else c", "branch r0 b else c else b", "branch r0 b else else c", "branch r0 b r1 else c",
                  "branch r0 b else c r1", "branch x b else c", "branch r0 B else c", "branch r0 b else C",
                  "branch r0 b r0=r1=r2 else c", "branch r0 b else c r0=x", "branch r0 else else c", "else",
                  "branch r0=r1 b else c")

    def test_second_piece_is_the_sign_whatever_the_first_is(self):
        self.none("print = read", "jump = read", "block = read", "inputs = read", "return = const 5",
                  "branch = move r0", "inputs =", "block =", "print =", "jump = r0=r1")
        self.refuse("inputs = read\nblock a\nreturn r0", 1, "not a line of code")

    def test_nothing_else(self):
        self.none("x", "5", "#", "r0", "r0 : const 5", "swap r0 r1", "; x@r0", "r0 = const 5 ; x@r0", "print\tr0")

    def test_locations(self):
        for location in LOCATIONS:
            self.line(f"{location} = const 5", ("const", location, 5))
            self.line(f"print {location}", ("print", location))
            self.line(f"{location} = add {location} r0", ("op", location, "add", location, "r0"))
            self.end(f"jump b {location}=r0 r0={location}", ("jump", "b", ((location, "r0"), ("r0", location))))

    def test_nearly_locations(self):
        forms = ("{} = read", "{} = const 5", "r0 = add {} r0", "r0 = add r0 {}", "{} = add r0 r0", "print {}",
                 "r0 = move {}", "{} = move r0", "return {}", "jump b {}=r0", "jump b r0={}", "jump b r0=r1 {}=r0",
                 "branch {} b else b", "branch r0 b {}=r0 else b", "branch r0 b else b r0={}",
                 "branch r0 b r0=r0 r0={} else b r0=r0")
        for location, form in itertools.product(NO_LOCATIONS, forms):
            self.none(form.format(location))


class CodeTest(Refusals):
    def test_example(self):
        text = ("inputs r0\nblock a\nbranch r0 b r1=r0 else c\nblock b\ns0 = sub r1 r0\nreturn s0\nblock c\n"
                "r1 = move r0\nreturn r1")
        expected = (("r0",), (("a", (), ("branch", "r0", "b", (("r1", "r0"),), "c", ())),
                              ("b", (("op", "s0", "sub", "r1", "r0"),), ("return", "s0")),
                              ("c", (("move", "r1", "r0"),), ("return", "r1"))))
        self.assertEqual(parse_code(text), expected)
        self.assertEqual(parse_code(text + "\n"), expected)
        self.assertEqual(parse_code("\n \n" + text.replace("\n", "  \n\n ").replace(" ", "   ") + "\n\n"), expected)

    def test_block_that_nothing_reaches(self):
        self.assertEqual(len(parse_code("inputs\nblock a\nreturn r0\nblock b\nreturn r1")[1]), 2)

    def test_number_of_inputs_lines_and_moves_is_free(self):
        code = parse_code("inputs r0\nblock a\n" + "print r0\n" * 300 + "return r0")
        self.assertEqual(len(code[1][0][1]), 300)
        code = parse_code("inputs\nblock a\njump b" + " r0=r1" * 400 + "\nblock b\nreturn r0")
        self.assertEqual(len(code[1][0][2][2]), 400)

    def test_new_each_time_and_tuples(self):
        text = "inputs r0\nblock a\njump b r1=r0\nblock b\nreturn r0"
        code = parse_code(text)
        self.assertEqual(code, parse_code(text))
        block = code[1][0]
        parts = [code, code[0], code[1], block, block[1], block[2], block[2][2], block[2][2][0]]
        self.assertEqual({part.__class__ for part in parts}, {tuple})


class PhasesTest(Refusals):
    def test_text_too_long(self):
        text = "inputs\nblock a\nreturn r0"
        self.assertEqual(parse_code(text + " " * (3000 - len(text))), ((), (("a", (), ("return", "r0")),)))
        self.refuse(text + " " * (3001 - len(text)), 0, "text too long")
        self.refuse("?" * 3001, 0, "text too long")
        self.refuse("?" * 3000, 1, "not a line of code")
        self.refuse("\n" * 3001, 0, "text too long")
        self.refuse("\n" * 3000, 1, "no block")

    def test_not_a_line_of_code(self):
        self.refuse("nothing", 1, "not a line of code")
        self.refuse("\n\n nothing\ninputs\nblock a\nreturn r0", 3, "not a line of code")
        self.refuse("inputs x\nblock a\nreturn r0", 1, "not a line of code")
        self.refuse("inputs\nblock a x\nreturn r0", 2, "not a line of code")
        self.refuse("inputs\nblock a\nreturn r0\n\nnothing", 5, "not a line of code")
        self.refuse("inputs\ninputs x\nblock a\nreturn r0", 2, "not a line of code")

    def test_inputs_expected(self):
        self.refuse("block a\nreturn r0", 1, "inputs expected")
        self.refuse("\n\nblock a\nreturn r0\ninputs", 3, "inputs expected")
        self.refuse("print r0\ninputs\nblock a\nreturn r0", 1, "inputs expected")
        self.refuse("block a", 1, "inputs expected")
        self.refuse("return r0", 1, "inputs expected")

    def test_inputs_again(self):
        self.refuse("inputs\ninputs\nblock a\nreturn r0", 2, "inputs again")
        self.refuse("inputs\nblock a\ninputs r0\nreturn r0", 3, "inputs again")
        self.refuse("inputs\nblock a\nreturn r0\n\ninputs", 5, "inputs again")
        self.refuse("inputs\nblock a\nreturn r0\ninputs\nblock b\nreturn r0", 4, "inputs again")

    def test_outside_a_block(self):
        self.refuse("inputs\nprint r0\nblock a\nreturn r0", 2, "outside a block")
        self.refuse("inputs\nreturn r0", 2, "outside a block")
        self.refuse("inputs\n\n\nr0 = read", 4, "outside a block")

    def test_after_the_end(self):
        self.refuse("inputs\nblock a\nreturn r0\nprint r0", 4, "after the end")
        self.refuse("inputs\nblock a\njump b\nreturn r0\nblock b\nreturn r0", 4, "after the end")
        self.refuse("inputs\nblock a\nbranch r0 b else b\nr0 = move r1\nblock b\nreturn r0", 4, "after the end")

    def test_block_without_end(self):
        self.refuse("inputs\nblock a", 2, "block without end")
        self.refuse("inputs\nblock a\nprint r0\nblock b\nreturn r0", 2, "block without end")
        self.refuse("inputs\nblock a\nreturn r0\nblock b\nprint r0", 4, "block without end")
        self.refuse("inputs\nblock a\nreturn\nblock b\nreturn r0", 2, "block without end")
        self.refuse("inputs\nblock a\nblock B\nreturn r0", 3, "not a line of code")
        self.refuse("inputs\nblock a\ninputs\nblock b\nreturn r0", 2, "block without end")

    def test_no_block(self):
        for text in ("", " ", "\n\n", "inputs", "inputs r0 r1", "\n\ninputs\n"):
            self.refuse(text, 1, "no block")
        self.refuse("inputs r0 r0", 1, "no block")

    def test_first_line_of_the_first_phase_comes_first(self):
        self.refuse("inputs r0 r0\nblock a\njump q\nprint r0", 4, "after the end")
        self.refuse("inputs r0 r0\nblock a\njump q\ninputs", 4, "inputs again")
        self.refuse("inputs\nblock a\nnothing\nprint r0", 2, "block without end")
        self.refuse("block a\nnothing", 1, "inputs expected")
        self.refuse("inputs\ninputs\nnothing", 2, "inputs again")

    def test_same_input_twice(self):
        self.refuse("inputs r0 r0\nblock a\nreturn r0", 1, "same input twice")
        self.refuse("\ninputs s1 r0 s1\nblock a\nreturn r0", 2, "same input twice")
        self.refuse("inputs t r0 r1 t\nblock a\njump q", 1, "same input twice")

    def blocks(self, many):
        lines = [f"block b{number}\njump b{number + 1}\n" for number in range(many - 1)]
        return "inputs\n" + "".join(lines + [f"block b{many - 1}\nreturn r0"])

    def test_too_many_blocks(self):
        self.assertEqual(len(parse_code(self.blocks(8))[1]), 8)
        self.refuse(self.blocks(9), 18, "too many blocks")
        self.refuse(self.blocks(12), 18, "too many blocks")
        self.refuse(self.blocks(9).replace("b8", "b7"), 18, "too many blocks")

    def test_duplicate_block(self):
        self.refuse("inputs\nblock a\nreturn r0\nblock a\nreturn r0", 4, "duplicate block")
        self.refuse("inputs\nblock a\njump b\nblock b\nreturn r0\n\nblock b\nreturn r0", 7, "duplicate block")

    def test_unknown_block(self):
        self.refuse("inputs\nblock a\njump b", 3, "unknown block")
        self.refuse("inputs\nblock a\nbranch r0 b else c\nblock b\nreturn r0", 3, "unknown block")
        self.refuse("inputs\nblock a\nbranch r0 c else b\nblock b\nreturn r0", 3, "unknown block")
        self.refuse("inputs\nblock a\nbranch r0 a else b", 3, "unknown block")
        self.refuse("inputs\nblock a\njump r0 r0=r1", 3, "unknown block")

    def test_entry_as_target(self):
        self.refuse("inputs\nblock a\njump a", 3, "entry as target")
        self.refuse("inputs\nblock a\nbranch r0 b else a\nblock b\nreturn r0", 3, "entry as target")
        self.refuse("inputs\nblock a\njump b\nblock b\nbranch r0 a r0=r1 else b", 5, "entry as target")

    def test_first_line_of_the_second_phase_comes_first(self):
        self.refuse("inputs\nblock a\njump q\nblock a\nreturn r0", 3, "unknown block")
        self.refuse("inputs\nblock a\nreturn r0\nblock a\njump q", 4, "duplicate block")
        self.refuse("inputs\nblock a\njump a\nblock b\njump q", 3, "entry as target")


PLACE = "(?:r[0-7]|s(?:[0-9]|1[0-5])|t)"
MOVES = f"((?: {PLACE}={PLACE})*)"
FORMS = (
    (f"inputs((?: {PLACE})*)", "inputs"), (f"block ({NAME})", "block"), (f"{PLACE} = const {NUMBER}", "const"),
    (f"{PLACE} = (?:add|sub|mul|less|equal) {PLACE} {PLACE}", "op"), (f"{PLACE} = read", "read"),
    (f"{PLACE} = move {PLACE}", "move"), (f"print {PLACE}", "print"), (f"return {PLACE}", "return"),
    (f"jump ({NAME}){MOVES}", "jump"), (f"branch {PLACE} ({NAME}){MOVES} else ({NAME}){MOVES}", "branch"))


def fault_by_words(text):
    """Give (line, reason) of the fault of a text by the words of k2, or None."""
    if len(text) > 3000:
        return 0, "text too long"
    rows = [(at, line_by_words(line, FORMS)) for at, line in enumerate(text.split("\n"), 1) if line.strip(" ")]
    for place, (at, row) in enumerate(rows):
        reason = line_reason([row and row[0] for _, row in rows], place)
        if reason:
            return at, reason
    heads = [(at, row[1][0]) for at, row in rows if row[0] == "block"]
    if not heads:
        return 1, "no block"
    for at, (kind, parts) in rows:
        reason = name_reason(heads, at, kind, parts)
        if reason:
            return at, reason
    return None


def line_reason(kinds, place):
    """Give the reason of the first phase at a line, or None."""
    kind = kinds[place]
    ends = ("jump", "branch", "return")
    if kind is None:
        return "not a line of code"
    if place == 0:
        return None if kind == "inputs" else "inputs expected"
    if kind == "inputs":
        return "inputs again"
    if kind == "block":
        for later in kinds[place + 1:] + ["block"]:
            if later in ends + ("block",):
                return "block without end" if later == "block" else None
    if "block" not in kinds[:place]:
        return "outside a block"
    begin = max([at for at in range(place) if kinds[at] == "block"])
    return "after the end" if [at for at in range(begin, place) if kinds[at] in ends] else None


def name_reason(heads, at, kind, parts):
    """Give the reason of the second phase at a line, or None."""
    names = [name for _, name in heads]
    if kind == "inputs" and len(set(parts[0].split())) < len(parts[0].split()):
        return "same input twice"
    if kind == "block" and [line for line, _ in heads].index(at) >= 8:
        return "too many blocks"
    if kind == "block" and parts[0] in [name for line, name in heads if line < at]:
        return "duplicate block"
    targets = {"jump": parts[:1], "branch": parts[::2]}.get(kind, ())
    if [name for name in targets if name not in names]:
        return "unknown block"
    return "entry as target" if names[0] in targets else None


class ReferenceTest(unittest.TestCase):
    def check(self, text):
        found = None
        try:
            code = parse_code(text)
            self.assertEqual(parse_code(code_text(code)), code)
        except BadCode as error:
            found = (error.line, error.reason)
        fault = fault_by_words(text)
        self.assertEqual(found, fault, text)
        return fault and fault[1]

    def test_code_changed_by_chance(self):
        chance = random.Random(71)
        reasons = {}
        for _ in range(300):
            text = code_text(random_code(chance, 8))
            self.assertIsNone(self.check(text))
            for many in (1, 1, 1, 2, 3, 6):
                other = text
                for _ in range(many):
                    other = changed(chance, other)
                reason = self.check(other)
                reasons[reason] = reasons.get(reason, 0) + 1
        self.assertGreater(len(reasons), 10, reasons)

    def test_rows_of_short_lines(self):
        lines = ("inputs", "inputs r0 r0", "block a", "block b", "r0 = read", "jump b", "branch t a else b t=r0",
                 "return r0", "", "block")
        for many in (0, 1, 2, 3, 4):
            for rows in itertools.product(lines, repeat=many):
                self.check("\n".join(rows))

    def test_pieces_by_chance(self):
        chance = random.Random(72)
        pieces = ("inputs", "block", "a", "b", "r0", "t", "=", "t=r0", "read", "move", "const", "0", "add", "jump",
                  "branch", "else", "return", "print", "\n", "\n", " ", "\t")
        for _ in range(2000):
            self.check("inputs\nblock a\n" + " ".join([chance.choice(pieces) for _ in range(chance.randrange(20))]))


class WrittenFormTest(unittest.TestCase):
    def test_all_kinds_of_lines(self):
        text = ("inputs r1 s0 t\nblock a\nr0 = const -32768\nr2 = add r0 r1\ns15 = sub r2 s0\nr3 = mul r2 r2\n"
                "r4 = less r3 t\nr5 = equal r4 r4\nr6 = read\nprint r6\nr7 = move s15\n"
                "branch r5 b t=r0 r0=r1 r1=t else c\nblock b\njump c r0=r7\nblock c\nbranch r0 c else b s1=s2\n")
        code = (("r1", "s0", "t"), (
            ("a", (("const", "r0", -32768), ("op", "r2", "add", "r0", "r1"), ("op", "s15", "sub", "r2", "s0"),
                   ("op", "r3", "mul", "r2", "r2"), ("op", "r4", "less", "r3", "t"), ("op", "r5", "equal", "r4", "r4"),
                   ("read", "r6"), ("print", "r6"), ("move", "r7", "s15")),
             ("branch", "r5", "b", (("t", "r0"), ("r0", "r1"), ("r1", "t")), "c", ())),
            ("b", (), ("jump", "c", (("r0", "r7"),))), ("c", (), ("branch", "r0", "c", (), "b", (("s1", "s2"),)))))
        self.assertEqual(code_text(code), text)
        self.assertEqual(parse_code(text), code)

    def test_no_inputs(self):
        code = ((), (("a", (), ("return", "s3")),))
        self.assertEqual(code_text(code), "inputs\nblock a\nreturn s3\n")
        self.assertEqual(parse_code(code_text(code)), code)

    def test_spaces_and_empty_lines_go(self):
        text = "\n  inputs   r0  r1\n\n block  a\n  jump   b  r0=r1   r1=r0\nblock b \n\n return   r0"
        self.assertEqual(code_text(parse_code(text)), "inputs r0 r1\nblock a\njump b r0=r1 r1=r0\nblock b\nreturn r0\n")

    def test_what_is_written_is_read_as_the_same(self):
        chance = random.Random(73)
        for _ in range(500):
            code = random_code(chance, 8)
            text = code_text(code)
            self.assertEqual(parse_code(text), code)
            self.assertEqual(parse_code(text[:-1]), code)
            self.assertEqual(code_text(parse_code(text.replace(" ", "  ").replace("\n", "\n \n"))), text)

    def test_longer_than_can_be_read(self):
        code = (("r0",), (("a", tuple([("print", "r0")] * 500), ("return", "r0")),))
        self.assertEqual(code_text(code), "inputs r0\nblock a\n" + "print r0\n" * 500 + "return r0\n")


if __name__ == "__main__":
    unittest.main()
