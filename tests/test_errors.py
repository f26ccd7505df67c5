import unittest

from stopsheld import errors

NAMES = ("BadProgram", "BadCode", "Clash", "BadPaper", "BadArgument", "BadJournal")


def caught(error):
    """Raise an error and give what a handler of the base of all gets."""
    try:
        raise error
    except errors.StopsError as found:
        return found


class BasesTest(unittest.TestCase):
    def test_base_of_all_is_a_value_error(self):
        self.assertTrue(issubclass(errors.StopsError, ValueError))

    def test_base_of_all_is_the_base_of_each(self):
        for name in NAMES:
            self.assertTrue(issubclass(getattr(errors, name), errors.StopsError), name)

    def test_none_of_the_others_is_a_base_of_another(self):
        for name in NAMES:
            for other in NAMES:
                if name != other:
                    self.assertFalse(issubclass(getattr(errors, name), getattr(errors, other)), (name, other))


class FieldsTest(unittest.TestCase):
    def test_bad_program(self):
        found = caught(errors.BadProgram(3, "not an instruction"))
        self.assertIs(found.__class__, errors.BadProgram)
        self.assertEqual((found.line, found.reason), (3, "not an instruction"))

    def test_bad_code(self):
        found = caught(errors.BadCode(0, "text too long"))
        self.assertIs(found.__class__, errors.BadCode)
        self.assertEqual((found.line, found.reason), (0, "text too long"))

    def test_clash_takes_nothing(self):
        self.assertIs(caught(errors.Clash()).__class__, errors.Clash)
        with self.assertRaises(TypeError):
            errors.Clash("x")

    def test_bad_paper(self):
        found = caught(errors.BadPaper(2, 5, "operand"))
        self.assertIs(found.__class__, errors.BadPaper)
        self.assertEqual((found.block, found.place, found.reason), (2, 5, "operand"))

    def test_bad_paper_without_block_and_place(self):
        found = caught(errors.BadPaper(None, None, "inputs"))
        self.assertEqual((found.block, found.place, found.reason), (None, None, "inputs"))

    def test_bad_argument(self):
        found = caught(errors.BadArgument("returned"))
        self.assertIs(found.__class__, errors.BadArgument)
        self.assertEqual(found.reason, "returned")

    def test_bad_journal(self):
        found = caught(errors.BadJournal(7))
        self.assertIs(found.__class__, errors.BadJournal)
        self.assertEqual(found.place, 7)

    def test_arguments_have_the_names_of_the_fields(self):
        self.assertEqual(errors.BadProgram(line=1, reason="x").line, 1)
        self.assertEqual(errors.BadCode(line=1, reason="x").reason, "x")
        self.assertEqual(errors.BadPaper(block=1, place=2, reason="x").place, 2)
        self.assertEqual(errors.BadArgument(reason="x").reason, "x")
        self.assertEqual(errors.BadJournal(place=4).place, 4)


if __name__ == "__main__":
    unittest.main()
