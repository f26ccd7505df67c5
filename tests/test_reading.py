import itertools
import random
import re
import unittest

from stopsheld.errors import BadProgram
from stopsheld.reading import parse_lines, parse_program
from stopsheld.writing import program_text
from tests.samples import LOOP_TEXT, reached, random_programs
from tests.test_programs import ways_to


def shape_of(line):
    """Give the shape of the one line of a text."""
    rows = parse_lines(line)
    assert len(rows) == 1 and rows[0][0] == 1
    return rows[0][1]


class Refusals(unittest.TestCase):
    def refuse(self, text, line, reason):
        with self.assertRaises(BadProgram) as caught:
            parse_program(text)
        self.assertIs(caught.exception.__class__, BadProgram)
        self.assertEqual((caught.exception.line, caught.exception.reason), (line, reason), text)


class FormsTest(unittest.TestCase):
    def check(self, line, shape):
        self.assertEqual(shape_of(line), shape, line)

    def none(self, *lines):
        for line in lines:
            self.assertIsNone(shape_of(line), line)

    def test_block(self):
        self.check("block a", ("block", "a", ()))
        self.check("block a x", ("block", "a", ("x",)))
        self.check("block block read print jump", ("block", "block", ("read", "print", "jump")))
        self.check("block a x x", ("block", "a", ("x", "x")))
        self.check("block a v w x y z", ("block", "a", ("v", "w", "x", "y", "z")))
        self.none("block", "block A", "block a X", "block a x else", "block else", "block 1a", "block a, x", "blocks a",
                  "Block a", "block abcdefg", "block a abcdefg", "block a x = 1")

    def test_const(self):
        self.check("x = const 5", ("const", "x", 5))
        self.check("x = const -5", ("const", "x", -5))
        self.none("x = const", "x = const y", "x = const 5 6", "x = Const 5", "x = const + 5", "X = const 5", "x = 5",
                  "else = const 5", "x const 5", "const x 5", "= const 5", "x == const 5", "x= const 5", "x =const 5")

    def test_operations(self):
        for operation in ("add", "sub", "mul", "less", "equal"):
            self.check(f"x = {operation} b a", ("op", "x", operation, "b", "a"))
            self.none(f"x = {operation} a", f"x = {operation} a b c", f"x = {operation}", f"x = {operation} a 1",
                      f"x = {operation} 1 a", f"x = {operation} A b", f"x = {operation} a else",
                      f"else = {operation} a b", f"{operation} x a b", f"x {operation} a b",
                      f"x = {operation.upper()} a b")
        self.check("add = add add add", ("op", "add", "add", "add", "add"))
        self.none("x = div a b", "x = op a b", "x = op add a b", "x = equals a b", "x = move a", "x = print a")

    def test_read(self):
        self.check("x = read", ("read", "x"))
        self.check("read = read", ("read", "read"))
        self.none("x = read y", "x = Read", "read x", "x read", "else = read", "1 = read", "x =", "=", "= =",
                  "= = read")

    def test_print(self):
        self.check("print x", ("print", "x"))
        self.check("print print", ("print", "print"))
        self.none("print", "print x y", "print 5", "print else", "print X", "x print", "Print x")

    def test_jump(self):
        self.check("jump b", ("jump", "b", ()))
        self.check("jump b x y x", ("jump", "b", ("x", "y", "x")))
        self.check("jump jump jump", ("jump", "jump", ("jump",)))
        self.check("jump b u v w x y z", ("jump", "b", ("u", "v", "w", "x", "y", "z")))
        self.none("jump", "jump B", "jump else", "jump b 5", "jump b x else", "jump b x else c", "jump b x=y")

    def test_branch(self):
        self.check("branch x b else c", ("branch", "x", "b", (), "c", ()))
        self.check("branch x b y z else c x", ("branch", "x", "b", ("y", "z"), "c", ("x",)))
        self.check("branch x b else b y", ("branch", "x", "b", (), "b", ("y",)))
        self.check("branch b b b else b b", ("branch", "b", "b", ("b",), "b", ("b",)))
        self.none("branch", "branch x", "branch x b", "branch x b c", "branch x b y c", "branch x b else",
                  "branch x else c", "branch else c", "branch x b else c else d", "branch x b else else c",
                  "branch x else else c", "branch else b else c", "branch x b Else c", "branch X b else c",
                  "branch x B else c", "branch x b else C", "branch x b 5 else c", "branch x b else c 5",
                  "else", "else branch x b c")

    def test_return(self):
        self.check("return x", ("return", "x"))
        self.check("return return", ("return", "return"))
        self.none("return", "return x y", "return 0", "return else", "return X", "Return x")

    def test_second_piece_is_the_sign_whatever_the_first_is(self):
        for word in ("block", "print", "jump", "branch", "return", "const", "read"):
            self.check(f"{word} = read", ("read", word))
            self.check(f"{word} = const 5", ("const", word, 5))
            self.check(f"{word} = add a b", ("op", word, "add", "a", "b"))
            self.none(f"{word} =", f"{word} = x", f"{word} = x y")
        self.none("else = read", "5 = read", "= = read", "block = a", "abcdefg = read", "jump = b x",
                  "branch = b else c")

    def test_nothing_else(self):
        self.none("x", "5", "#", "# x = read", "x : const 5", "goto b", "x = y", "halt", "a b c d e", "print\tx", ";")


class NumbersTest(unittest.TestCase):
    def test_words(self):
        for number in (0, 1, -1, 9, 10, -10, 99, 100, 12345, 32766, 32767, -32767, -32768):
            self.assertEqual(shape_of(f"x = const {number}"), ("const", "x", number))

    def test_all_words(self):
        text = "\n".join([f"x = const {number}" for number in range(-32800, 32800)])
        expected = [("const", "x", word) if -32768 <= word <= 32767 else None for word in range(-32800, 32800)]
        self.assertEqual([shape for _, shape in parse_lines(text)], expected)

    def test_beyond_the_bounds_of_words(self):
        for piece in ("32768", "-32769", "40000", "65536", "-65536", "99999", "100000", "1" * 30, "-" + "9" * 5000):
            self.assertIsNone(shape_of(f"x = const {piece}"), piece[:30])

    def test_nearly_numbers(self):
        pieces = ["-0", "00", "01", "-01", "007", "+1", "--1", "-", "1-", "1.0", "1e3", "1_000", "0x1", "1,000", "- 1",
                  "\u0661", "-\u0661", "\u00b2", "\u0967", "1\u0660", "\uff11", "\t1", "1\t", "1\r", "-\t1",
                  "one", "\u22121", "", "''"]
        for piece in pieces:
            self.assertIsNone(shape_of(f"x = const {piece}"), repr(piece))


class NamesTest(unittest.TestCase):
    def test_names(self):
        for name in ("a", "z", "abcdef", "a12345", "z9", "els", "elsee", "else1", "aelse", "t", "r0"):
            self.assertEqual(shape_of(f"print {name}"), ("print", name))
            self.assertEqual(shape_of(f"block {name} {name}"), ("block", name, (name,)))
            self.assertEqual(shape_of(f"{name} = read"), ("read", name))
            self.assertEqual(shape_of(f"jump {name} {name}"), ("jump", name, (name,)))

    def test_nearly_names(self):
        for name in ("abcdefg", "a123456", "else", "1a", "9", "A", "aB", "a_b", "a-b", "_a", "\u00e9", "a\u0661",
                     "\u03b1", "a\t", "\ta", "a\r", "a\u00a0b", "a=b"):
            for line in ("print {}", "block {}", "block a {}", "{} = read", "jump {}", "jump a {}", "return {}",
                         "x = add {} a", "x = add a {}", "branch {} a else a", "branch a {} else a",
                         "branch a a {} else a", "branch a a else {}", "branch a a else a {}", "{} = const 1"):
                self.assertIsNone(shape_of(line.format(name)), (line, name))


class LinesTest(unittest.TestCase):
    def test_no_lines(self):
        for text in ("", "\n", "  ", " \n\n   \n"):
            self.assertEqual(parse_lines(text), [])

    def test_spaces_between_ahead_and_behind(self):
        self.assertEqual(parse_lines("   x   =  add    a b   "), [(1, ("op", "x", "add", "a", "b"))])

    def test_lines_without_pieces_are_counted(self):
        text = "\n\nblock a x\n   \n\n  print x\nnothing\n\nreturn x\n\n"
        self.assertEqual(parse_lines(text), [(3, ("block", "a", ("x",))), (6, ("print", "x")), (7, None),
                                             (9, ("return", "x"))])

    def test_newlines_alone_part_lines(self):
        for sign in ("\r", "\x0b", "\x0c", "\x1c", "\x85", "\u2028"):
            self.assertEqual(parse_lines(f"print x{sign}\nprint y"), [(1, None), (2, ("print", "y"))])
            self.assertEqual(parse_lines(f"print x{sign}print y"), [(1, None)])
            self.assertEqual(parse_lines(f"{sign}\nprint y"), [(1, None), (2, ("print", "y"))])

    def test_spaces_alone_part_pieces(self):
        for sign in ("\t", "\x0b", "\x0c", "\u00a0", "\u2003", "\u3000"):
            self.assertEqual(parse_lines(f"print{sign}x"), [(1, None)])
            self.assertEqual(parse_lines(f"print {sign} x"), [(1, None)])

    def test_no_bound_on_their_number(self):
        self.assertEqual(parse_lines("print x\n" * 2000), [(number, ("print", "x")) for number in range(1, 2001)])

    def test_kinds_and_new_each_time(self):
        first, second = parse_lines(LOOP_TEXT), parse_lines(LOOP_TEXT)
        self.assertIs(first.__class__, list)
        self.assertIsNot(first, second)
        for row in first:
            self.assertIs(row.__class__, tuple)
            self.assertEqual({part.__class__ for part in row[1]} - {str, int, tuple}, set())
        first.clear()
        self.assertEqual(parse_lines(LOOP_TEXT), second)


class ProgramsTest(unittest.TestCase):
    def test_example(self):
        text = "block a x\nbranch x b x else c\nblock b y\n  z = sub y x\nreturn z\nblock c\nreturn x"
        self.assertEqual(parse_program(text), (
            ("a", ("x",), (), ("branch", "x", "b", ("x",), "c", ())),
            ("b", ("y",), (("op", "z", "sub", "y", "x"),), ("return", "z")), ("c", (), (), ("return", "x"))))

    def test_loop(self):
        self.assertEqual(parse_program(LOOP_TEXT), (
            ("a", ("n",), (("const", "one", 1),), ("jump", "b", ("n", "one"))),
            ("b", ("k", "p"), (("op", "q", "mul", "p", "k"), ("op", "l", "sub", "k", "one")),
             ("branch", "l", "b", ("l", "q"), "c", ())),
            ("c", (), (), ("return", "q"))))

    def test_newlines_at_the_end_or_not(self):
        self.assertEqual(parse_program(LOOP_TEXT + "\n"), parse_program(LOOP_TEXT))
        self.assertEqual(parse_program(LOOP_TEXT + "\n\n  \n"), parse_program(LOOP_TEXT))

    def test_names_of_blocks_and_variables_have_nothing_to_do_with_one_another(self):
        self.assertEqual(parse_program("block x x\njump y x\nblock y y\nreturn x"),
                         (("x", ("x",), (), ("jump", "y", ("x",))), ("y", ("y",), (), ("return", "x"))))

    def test_definition_in_a_block_that_dominates_but_stands_behind(self):
        program = parse_program("block a\njump c\nblock b\nreturn x\nblock c\nx = read\njump b\n")
        self.assertEqual([block[0] for block in program], ["a", "b", "c"])

    def test_no_return_is_needed(self):
        self.assertEqual(parse_program("block a\njump b\nblock b\njump b"),
                         (("a", (), (), ("jump", "b", ())), ("b", (), (), ("jump", "b", ()))))


class PhasesTest(Refusals):
    def test_text_too_long(self):
        text = "block a x\nreturn x"
        self.assertEqual(parse_program(text + " " * (1500 - len(text))), (("a", ("x",), (), ("return", "x")),))
        self.refuse(text + " " * (1501 - len(text)), 0, "text too long")
        self.refuse("?" * 1501, 0, "text too long")
        self.refuse("\n" * 1501, 0, "text too long")
        self.refuse("?" * 1500, 1, "not an instruction")
        self.refuse("\n" * 1500, 1, "no block")
        self.refuse("\u00e9" * 1500, 1, "not an instruction")

    def test_not_an_instruction(self):
        self.refuse("block a x\nx = div x x\nreturn x", 2, "not an instruction")
        self.refuse("nothing", 1, "not an instruction")
        self.refuse("\n\n nothing\nblock a x\nreturn x", 3, "not an instruction")
        self.refuse("block a x\nreturn x\nnothing", 3, "not an instruction")
        self.refuse("block a x\nreturn x\n\nblock 1\nreturn x", 4, "not an instruction")
        self.refuse("block a x\nbranch x b\nreturn x", 2, "not an instruction")

    def test_outside_a_block(self):
        self.refuse("x = read\nblock a\nreturn x", 1, "outside a block")
        self.refuse("\nreturn x\nblock a\nreturn x", 2, "outside a block")
        self.refuse("x = read\nreturn x", 1, "outside a block")
        self.refuse("return x", 1, "outside a block")
        self.refuse("print x\nnothing", 1, "outside a block")
        self.refuse("nothing\nprint x", 1, "not an instruction")
        self.refuse("block A\nx = read\nreturn x", 1, "not an instruction")

    def test_after_the_end(self):
        self.refuse("block a x\nreturn x\nprint x", 3, "after the end")
        self.refuse("block a x\nreturn x\nreturn x", 3, "after the end")
        self.refuse("block a x\njump b\ny = read\nblock b\nreturn x", 3, "after the end")
        self.refuse("block a x\nbranch x b else b\n\nx = read\nblock b\nreturn x", 4, "after the end")
        self.refuse("block a x\nreturn x\nprint x\nblock b", 3, "after the end")

    def test_block_without_end(self):
        self.refuse("block a x", 1, "block without end")
        self.refuse("block a x\nprint x", 1, "block without end")
        self.refuse("block a x\nblock b\nreturn x", 1, "block without end")
        self.refuse("block a x\nreturn x\n\nblock b\ny = read\nprint y", 4, "block without end")
        self.refuse("block a x\nnothing\nblock b\nreturn x", 1, "block without end")

    def test_a_line_without_a_form_is_neither_an_end_nor_a_block_line(self):
        self.refuse("block a x\nreturn\nblock b\nreturn x", 1, "block without end")
        self.refuse("block a x\nreturn", 1, "block without end")
        self.refuse("block a x\nblock B\nreturn x", 2, "not an instruction")
        self.refuse("block a x\nreturn x\nblock B\nreturn x", 3, "not an instruction")
        self.refuse("block a x\nreturn x\nreturn x\nblock B", 3, "after the end")

    def test_no_block(self):
        for text in ("", " ", "\n", "\n\n  \n"):
            self.refuse(text, 1, "no block")

    def test_first_line_of_the_first_phase_comes_first(self):
        self.refuse("block a x x\nprint y\njump q\nnothing", 4, "not an instruction")
        self.refuse("block a x x\nprint y\njump q\nprint x\nnothing", 4, "after the end")
        self.refuse("nothing\nblock a", 1, "not an instruction")
        self.refuse("print x\nblock a", 1, "outside a block")
        self.refuse("block a x x\nprint y\nreturn x\nblock b", 4, "block without end")

    def blocks(self, many, parameters=""):
        lines = [f"block b{number}\njump b{number + 1}\n" for number in range(many - 1)]
        return "".join(lines + [f"block b{many - 1}\nreturn x"]).replace("block b0", "block b0" + parameters)

    def test_too_many_blocks(self):
        self.assertEqual(len(parse_program(self.blocks(8, " x"))), 8)
        self.refuse(self.blocks(9, " x"), 17, "too many blocks")
        self.refuse(self.blocks(12, " x"), 17, "too many blocks")
        self.refuse(self.blocks(9, " x").replace("jump b8", "jump b7").replace("block b8", "block b0 v w x y z"),
                    17, "too many blocks")

    def test_too_many_parameters(self):
        self.assertEqual(parse_program("block a u v w x\nreturn x")[0][1], ("u", "v", "w", "x"))
        self.refuse("block a u v w x y\nreturn x", 1, "too many parameters")
        self.refuse("block a u u u u u\nreturn x", 1, "too many parameters")
        self.refuse("block a u v w x y z\nreturn x", 1, "too many parameters")
        self.refuse("block a x\nreturn x\nblock a u v w y z\nreturn x", 3, "too many parameters")
        reads = "".join([f"x{number} = read\n" for number in range(15)])
        self.refuse(f"block a\n{reads}return x0\nblock b u v w y z\nreturn u", 18, "too many parameters")

    def test_too_many_definitions(self):
        reads = "".join([f"x{number} = read\n" for number in range(14)])
        self.assertEqual(len(parse_program(f"block a u v\n{reads}return u")[0][2]), 14)
        self.refuse(f"block a u v\n{reads}y = read\nreturn u", 16, "too many definitions")
        self.refuse(f"block a u v\n{reads}u = read\nreturn u", 16, "too many definitions")
        self.refuse(f"block a u v w\n{reads}return u", 15, "too many definitions")
        self.refuse(f"block a u\n{reads}jump b u u\nblock b y z\nreturn u", 17, "too many definitions")
        self.refuse(f"block a u\n{reads}jump b u u\nblock b y y\nreturn u", 17, "too many definitions")
        self.refuse(f"block a u\n{reads}return u\nblock a y z\nreturn u", 17, "too many definitions")
        program = parse_program(f"block a u\n{reads}jump b u\nblock b y\nprint y\nprint u\nreturn u")
        self.assertEqual(program[1][1], ("y",))

    def test_duplicate_block(self):
        self.refuse("block a x\njump b\nblock b\nreturn x\nblock b\nreturn x", 5, "duplicate block")
        self.refuse("block a x\nreturn x\n\nblock a\nreturn x", 4, "duplicate block")
        self.refuse("block a x\nreturn x\nblock a x\nreturn x", 3, "duplicate block")

    def test_duplicate_variable(self):
        self.refuse("block a x\nx = read\nreturn x", 2, "duplicate variable")
        self.refuse("block a x x\nreturn x", 1, "duplicate variable")
        self.refuse("block a x y x\nreturn x", 1, "duplicate variable")
        self.refuse("block a x\njump b x\nblock b x\nreturn x", 3, "duplicate variable")
        self.refuse("block a x\njump b x\nblock b y\nx = const 1\nreturn x", 4, "duplicate variable")
        self.refuse("block a x\ny = read\ny = add x x\nreturn x", 3, "duplicate variable")
        self.refuse("block a x\njump c\nblock b\ny = read\nreturn x\nblock c\ny = read\nreturn x", 7,
                    "duplicate variable")

    def test_unknown_block(self):
        self.refuse("block a x\njump b", 2, "unknown block")
        self.refuse("block a x\njump x", 2, "unknown block")
        self.refuse("block a x\nbranch x b else c\nblock c\nreturn x", 2, "unknown block")
        self.refuse("block a x\nbranch x c else b\nblock c\nreturn x", 2, "unknown block")
        self.refuse("block a x\nbranch x a else b", 2, "unknown block")
        self.refuse("block a x\nbranch x c else b\nblock c y\nreturn x", 2, "unknown block")

    def test_wrong_number_of_arguments(self):
        self.refuse("block a x\njump b\nblock b y\nreturn x", 2, "wrong number of arguments")
        self.refuse("block a x\njump b x x\nblock b y\nreturn x", 2, "wrong number of arguments")
        self.refuse("block a x\njump b x\nblock b\nreturn x", 2, "wrong number of arguments")
        self.refuse("block a x\nbranch x b x else b\nblock b y\nreturn x", 2, "wrong number of arguments")
        self.refuse("block a x\nbranch x b else b x\nblock b y\nreturn x", 2, "wrong number of arguments")
        self.refuse("block a x\njump a", 2, "wrong number of arguments")
        self.refuse("block a x\nbranch x a x else b\nblock b y\nreturn x", 2, "wrong number of arguments")

    def test_of_blocks_with_one_name_the_first_tells_the_number(self):
        self.refuse("block a x\njump b\nblock b\nreturn x\nblock b y\nreturn x", 5, "duplicate block")
        self.refuse("block a x\njump b x\nblock b\nreturn x\nblock b y\nreturn x", 2, "wrong number of arguments")

    def test_entry_as_target(self):
        self.refuse("block a x\njump a x", 2, "entry as target")
        self.refuse("block a\njump a", 2, "entry as target")
        self.refuse("block a x\nbranch x a x else b\nblock b\nreturn x", 2, "entry as target")
        self.refuse("block a x\njump b\nblock b\nbranch x b else a x", 4, "entry as target")

    def test_first_line_of_the_second_phase_comes_first(self):
        self.refuse("block a x x\njump q\nblock a\nreturn x", 1, "duplicate variable")
        self.refuse("block a x\njump q\nblock a\nreturn x", 2, "unknown block")
        self.refuse("block a x\nprint y\nx = read\njump q", 3, "duplicate variable")
        self.refuse("block a x\nprint y\njump b\nblock c\nreturn x", 3, "unknown block")

    def test_first_reason_of_a_line_of_the_second_phase_comes_first(self):
        self.refuse("block a x\nreturn x\nblock a x\nreturn x", 3, "duplicate block")
        reads = "".join([f"x{number} = read\n" for number in range(12)])
        self.refuse(f"block a x\n{reads}return x\nblock a x u v w\nreturn x", 15, "too many definitions")
        self.refuse(f"block a x\n{reads}return x\nblock a x u v w y\nreturn x", 15, "too many parameters")

    def test_unreachable_block(self):
        self.refuse("block a x\nreturn x\nblock b\nreturn x", 3, "unreachable block")
        self.refuse("block a x\nreturn x\n\nblock b\njump b", 4, "unreachable block")
        self.refuse("block a x\nreturn x\nblock b\njump c\nblock c\njump b", 3, "unreachable block")
        self.refuse("block a x\njump c\nblock b\njump c\nblock c\nreturn x\nblock d\nreturn x", 3, "unreachable block")
        self.refuse("block a x\nprint y\nreturn x\nblock b\nreturn x", 4, "unreachable block")
        self.refuse("block a x\nprint y\nreturn x\nblock b\njump a x", 5, "entry as target")

    def test_undefined_variable(self):
        self.refuse("block a x\nprint y\nreturn x", 2, "undefined variable")
        self.refuse("block a\nreturn a", 2, "undefined variable")
        self.refuse("block a x\nprint y\ny = read\nreturn x", 2, "undefined variable")
        self.refuse("block a x\ny = add x y\nreturn x", 2, "undefined variable")
        self.refuse("block a x\ny = add y x\nreturn x", 2, "undefined variable")
        self.refuse("block a x\nbranch y b else b\nblock b\nreturn x", 2, "undefined variable")
        self.refuse("block a x\nbranch x b y else b x\nblock b z\nreturn x", 2, "undefined variable")
        self.refuse("block a x\nbranch x b x else b y\nblock b z\nreturn x", 2, "undefined variable")
        self.refuse("block a x\njump b z\nblock b z\nreturn x", 2, "undefined variable")

    def test_undefined_variable_of_another_block(self):
        self.refuse("block a x\nbranch x b else c\nblock b\ny = read\njump c\nblock c\nreturn y", 7,
                    "undefined variable")
        self.refuse("block a x\nbranch x b else c\nblock b\ny = read\njump c\nblock c\nprint y\nreturn x", 7,
                    "undefined variable")
        self.refuse("block a x\nbranch x b x else c\nblock b y\njump c\nblock c\nreturn y", 6, "undefined variable")
        self.refuse("block a x\nprint y\njump b\nblock b\ny = read\nreturn y", 2, "undefined variable")
        self.refuse("block a x\njump b\nblock b\nprint y\ny = read\nbranch y b else c\nblock c\nreturn y", 4,
                    "undefined variable")
        self.refuse("block a x\njump c\nblock b\nprint x\nreturn y\nblock c\njump b", 5, "undefined variable")

    def test_first_line_of_the_last_phase_comes_first(self):
        self.refuse("block a x\nprint x\nprint y\nprint z\nreturn x", 3, "undefined variable")
        self.refuse("block a x\njump b\nblock b\nprint y\nreturn z", 4, "undefined variable")


NAME = "(?!else(?: |$))[a-z][a-z0-9]{0,5}"
NUMBER = "(?P<number>0|-?[1-9][0-9]*)"
FORMS = (
    (f"block ({NAME})((?: {NAME})*)", "block"), (f"({NAME}) = const {NUMBER}", "const"),
    (f"({NAME}) = (add|sub|mul|less|equal) ({NAME}) ({NAME})", "op"), (f"({NAME}) = read", "read"),
    (f"print ({NAME})", "print"), (f"jump ({NAME})((?: {NAME})*)", "jump"),
    (f"branch ({NAME}) ({NAME})((?: {NAME})*) else ({NAME})((?: {NAME})*)", "branch"), (f"return ({NAME})", "return"))


def line_by_words(line, forms):
    """Give (kind, parts) of a line by a table of forms, or None."""
    line = " ".join(re.findall("[^ ]+", line))
    for form, kind in forms:
        found = re.fullmatch(form, line)
        if found and -32768 <= int(found.groupdict().get("number", "0")) <= 32767:
            return kind, found.groups()
    return None


WORDS = ("block", "jump", "branch", "print", "return", "const", "read", "add", "sub", "mul", "less", "equal")


class Reference:
    """The reasons of p3, looked for by the words of the document, each line by itself."""

    def __init__(self, text):
        self.text = text
        lines = text.split("\n")
        self.lines = {at: line_by_words(line, FORMS) for at, line in enumerate(lines, 1) if line.strip(" ")}
        self.heads = [at for at, row in self.lines.items() if row and row[0] == "block"]

    def fault(self):
        if len(self.text) > 1500:
            return 0, "text too long"
        for phase in (self.phase_of_lines, self.phase_of_names, self.phase_of_ways, self.phase_of_uses):
            for at in self.lines:
                reason = phase(at)
                if reason:
                    return at, reason
            if not self.heads:
                return 1, "no block"
        return None

    def head(self, at):
        return max([head for head in self.heads if head <= at], default=None)

    def end(self, head):
        for at in [at for at in self.lines if at > head]:
            if at in self.heads:
                return None
            if self.lines[at] and self.lines[at][0] in ("jump", "branch", "return"):
                return at
        return None

    def phase_of_lines(self, at):
        if self.lines[at] is None:
            return "not an instruction"
        head = self.head(at)
        if head is None:
            return "outside a block"
        if at in self.heads:
            return None if self.end(at) else "block without end"
        return "after the end" if self.end(head) and at > self.end(head) else None

    def made(self, at):
        kind, parts = self.lines[at]
        if kind == "block":
            return parts[1].split()
        return [parts[0]] if kind in ("const", "op", "read") else []

    def made_ahead(self, at):
        return [name for line in self.lines if line < at for name in self.made(line)]

    def targets(self, at):
        kind, parts = self.lines[at]
        if kind == "jump":
            return [(parts[0], parts[1].split())]
        return [(parts[1], parts[2].split()), (parts[3], parts[4].split())] if kind == "branch" else []

    def named(self, name):
        return [head for head in self.heads if self.lines[head][1][0] == name]

    def phase_of_names(self, at):
        if at in self.heads and self.heads.index(at) >= 8:
            return "too many blocks"
        if at in self.heads and len(self.made(at)) >= 5:
            return "too many parameters"
        names = self.made_ahead(at)
        if len(names) < 17 <= len(names + self.made(at)):
            return "too many definitions"
        if at in self.heads and self.named(self.lines[at][1][0])[0] < at:
            return "duplicate block"
        if len(set(self.made(at))) < len(self.made(at)) or set(self.made(at)) & set(names):
            return "duplicate variable"
        targets = self.targets(at)
        if [name for name, _ in targets if not self.named(name)]:
            return "unknown block"
        if [name for name, row in targets if len(row) != len(self.made(self.named(name)[0]))]:
            return "wrong number of arguments"
        return "entry as target" if self.lines[self.heads[0]][1][0] in [name for name, _ in targets] else None

    def graph(self):
        return [tuple([self.heads.index(self.named(name)[0]) for name, _ in self.targets(self.end(head))])
                for head in self.heads]

    def phase_of_ways(self, at):
        if at in self.heads and self.heads.index(at) not in reached(self.graph()):
            return "unreachable block"

    def used(self, at):
        kind, parts = self.lines[at]
        if kind == "op":
            return list(parts[2:])
        used = [parts[0]] if kind in ("print", "branch", "return") else []
        return used + [name for _, row in self.targets(at) for name in row]

    def phase_of_uses(self, at):
        head = self.head(at)
        here = [name for line in self.lines if head <= line < at for name in self.made(line)]
        ways = ways_to(self.graph(), self.heads.index(head))
        for name in self.used(at):
            makers = [self.heads.index(self.head(line)) for line in self.lines if name in self.made(line)]
            makers = [maker for maker in makers if maker != self.heads.index(head)]
            if name not in here and not [maker for maker in makers if all(maker in way for way in ways)]:
                return "undefined variable"


def changed(chance, text):
    """Give a text with one change by chance."""
    lines = [line.split(" ") for line in text.split("\n")]
    pieces = sorted({piece for line in lines for piece in line}) + ["else", "=", "0", "q", "block", "-0", "return"]
    names = [piece for piece in pieces if re.fullmatch(NAME, piece) and piece not in WORDS]
    at = chance.randrange(len(lines))
    row = lines[at]
    place = chance.randrange(len(row))
    deed = chance.randrange(16)
    if deed == 0:
        del lines[at]
    elif deed == 1:
        lines.insert(chance.randrange(len(lines) + 1), list(row))
    elif deed == 2:
        lines.insert(chance.randrange(len(lines)), lines.pop(at))
    elif deed == 3:
        del row[place]
    elif deed == 4:
        row.insert(place, chance.choice(pieces))
    elif deed == 5:
        lines.insert(at, [""])
    elif deed == 6:
        row[place] = chance.choice(pieces)
    elif deed < 9:
        row.append(chance.choice(names))
    else:
        places = [place for place, piece in enumerate(row) if piece in names]
        if places:
            row[chance.choice(places)] = chance.choice(names)
    return "\n".join([" ".join(row) for row in lines])


class ReferenceTest(unittest.TestCase):
    def check(self, text):
        fault = Reference(text).fault()
        found = None
        try:
            program = parse_program(text)
            self.assertEqual(parse_program(program_text(program)), program)
        except BadProgram as error:
            found = (error.line, error.reason)
        self.assertEqual(found, fault, text)
        return fault and fault[1]

    def test_programs_changed_by_chance(self):
        chance = random.Random(7)
        reasons = {}
        for program in random_programs(8, 250, 8):
            text = program_text(program)
            self.assertIsNone(self.check(text))
            for many in (1, 1, 1, 2, 3, 6):
                other = text
                for _ in range(many):
                    other = changed(chance, other)
                reason = self.check(other)
                reasons[reason] = reasons.get(reason, 0) + 1
        self.assertGreater(len(reasons), 12, reasons)

    def test_rows_of_short_lines(self):
        lines = ("block a", "block b x", "x = read", "print x", "jump b x", "branch x a else b x", "return x", "",
                 "block")
        for many in (0, 1, 2, 3, 4):
            for rows in itertools.product(lines, repeat=many):
                self.check("\n".join(rows))

    def test_pieces_by_chance(self):
        chance = random.Random(9)
        pieces = ("block", "a", "b", "x", "=", "read", "const", "0", "add", "jump", "branch", "else", "return", "print",
                  "\n", "\n", " ", "\t")
        for _ in range(2000):
            self.check(" ".join([chance.choice(pieces) for _ in range(chance.randrange(20))]))


if __name__ == "__main__":
    unittest.main()
