import unittest

from stopsheld.reading import parse_program
from stopsheld.writing import program_text
from tests.samples import random_programs


class WrittenFormTest(unittest.TestCase):
    def test_all_kinds_of_lines(self):
        program = (
            ("a", ("x", "y"), (("const", "z", -32768), ("const", "o", 0), ("read", "w"), ("op", "s", "add", "x", "z"),
                               ("op", "d", "sub", "y", "y"), ("op", "m", "mul", "s", "d"), ("print", "m"),
                               ("op", "l", "less", "s", "d"), ("op", "e", "equal", "l", "l")),
             ("branch", "e", "b", ("x", "e"), "c", ())),
            ("b", ("u", "v"), (), ("jump", "d", ("v",))),
            ("c", (), (("print", "x"),), ("branch", "w", "d", ("w",), "c", ())),
            ("d", ("k",), (), ("return", "k")),
        )
        text = ("block a x y\nz = const -32768\no = const 0\nw = read\ns = add x z\nd = sub y y\nm = mul s d\nprint m\n"
                "l = less s d\ne = equal l l\nbranch e b x e else c\nblock b u v\njump d v\nblock c\nprint x\n"
                "branch w d w else c\nblock d k\nreturn k\n")
        self.assertEqual(program_text(program), text)
        self.assertEqual(parse_program(text), program)

    def test_smallest(self):
        self.assertEqual(program_text((("a", ("x",), (), ("return", "x")),)), "block a x\nreturn x\n")
        self.assertEqual(program_text((("a", (), (), ("jump", "b", ())), ("b", (), (), ("jump", "b", ())))),
                         "block a\njump b\nblock b\njump b\n")

    def test_words_of_the_forms_as_names(self):
        program = (("jump", ("print",), (("read", "block"), ("print", "print")),
                    ("branch", "block", "read", (), "op", ())),
                   ("read", (), (("const", "const", 32767),), ("jump", "op", ())), ("op", (), (), ("return", "block")))
        text = ("block jump print\nblock = read\nprint print\nbranch block read else op\nblock read\n"
                "const = const 32767\njump op\nblock op\nreturn block\n")
        self.assertEqual(program_text(program), text)
        self.assertEqual(parse_program(text), program)

    def test_spaces_and_empty_lines_go(self):
        text = "\n  block   a  x\n\n y =   const    7\n   \nreturn   y  \n\n"
        self.assertEqual(program_text(parse_program(text)), "block a x\ny = const 7\nreturn y\n")

    def test_text_without_a_newline_at_its_end(self):
        text = "block a x\nreturn x"
        self.assertEqual(program_text(parse_program(text)), text + "\n")

    def test_what_is_written_is_read_as_the_same(self):
        for program in random_programs(21, 300, 8):
            text = program_text(program)
            self.assertEqual(parse_program(text), program)
            self.assertEqual(parse_program(text[:-1]), program)
            self.assertEqual(program_text(parse_program(text.replace(" ", "  ").replace("\n", "\n \n"))), text)

    def test_longer_than_can_be_read(self):
        program = (("a", ("x",), tuple([("print", "x")] * 300), ("return", "x")),)
        self.assertEqual(program_text(program), "block a x\n" + "print x\n" * 300 + "return x\n")


if __name__ == "__main__":
    unittest.main()
