import unittest

from stopsheld.words import is_name, operate, wrap


class WrapTest(unittest.TestCase):
    def check(self, integer, word):
        found = wrap(integer)
        self.assertEqual(found, word, integer)
        self.assertIs(found.__class__, int)

    def test_words_stay_as_they_are(self):
        for word in range(-32768, 32768):
            self.check(word, word)

    def test_bounds_and_one_beyond(self):
        self.check(-32768, -32768)
        self.check(32767, 32767)
        self.check(-32769, 32767)
        self.check(32768, -32768)

    def test_multiples(self):
        for factor in (-1000000, -3, -2, -1, 0, 1, 2, 3, 1000000):
            self.check(factor * 65536, 0)
            self.check(factor * 65536 + 5, 5)
            self.check(factor * 65536 - 5, -5)
            self.check(factor * 65536 + 32767, 32767)
            self.check(factor * 65536 - 32768, -32768)

    def test_somewhat_beyond(self):
        self.check(65535, -1)
        self.check(-65535, 1)
        self.check(90000, 24464)
        self.check(-90000, -24464)
        self.check(98304, -32768)
        self.check(-98304, -32768)

    def test_far_beyond(self):
        self.check(2 ** 100, 0)
        self.check(2 ** 100 - 1, -1)
        self.check(-(2 ** 100) - 1, -1)
        self.check(-(2 ** 100) + 7, 7)
        self.check(10 ** 40, 0)
        self.check(10 ** 40 + 32768, -32768)
        self.check(-(10 ** 40) - 32769, 32767)


class OperateTest(unittest.TestCase):
    def check(self, operation, a, b, word):
        found = operate(operation, a, b)
        self.assertEqual(found, word, (operation, a, b))
        self.assertIs(found.__class__, int)

    def test_add(self):
        self.check("add", 5, 7, 12)
        self.check("add", -5, 3, -2)
        self.check("add", 0, 0, 0)
        self.check("add", 32766, 1, 32767)
        self.check("add", 32767, 1, -32768)
        self.check("add", -32767, -1, -32768)
        self.check("add", -32768, -1, 32767)
        self.check("add", 32767, 32767, -2)
        self.check("add", -32768, -32768, 0)
        self.check("add", 32767, -32768, -1)

    def test_sub(self):
        self.check("sub", 5, 7, -2)
        self.check("sub", 7, 5, 2)
        self.check("sub", -5, -5, 0)
        self.check("sub", -32768, 1, 32767)
        self.check("sub", 32767, -1, -32768)
        self.check("sub", 0, -32768, -32768)
        self.check("sub", 32767, -32768, -1)
        self.check("sub", -32768, 32767, 1)

    def test_mul(self):
        self.check("mul", 6, 7, 42)
        self.check("mul", -6, 7, -42)
        self.check("mul", -6, -7, 42)
        self.check("mul", 0, -32768, 0)
        self.check("mul", 300, 300, 24464)
        self.check("mul", 256, 256, 0)
        self.check("mul", 182, 181, -32594)
        self.check("mul", -32768, -1, -32768)
        self.check("mul", -32768, -32768, 0)
        self.check("mul", 32767, 32767, 1)
        self.check("mul", 32767, -32768, -32768)

    def test_less(self):
        self.check("less", 5, 7, 1)
        self.check("less", 7, 5, 0)
        self.check("less", 5, 5, 0)
        self.check("less", -1, 0, 1)
        self.check("less", 0, -1, 0)
        self.check("less", -7, -5, 1)
        self.check("less", -32768, 32767, 1)
        self.check("less", 32767, -32768, 0)
        self.check("less", 32766, 32767, 1)
        self.check("less", -32768, -32768, 0)

    def test_equal(self):
        self.check("equal", 5, 5, 1)
        self.check("equal", 5, 7, 0)
        self.check("equal", 7, 5, 0)
        self.check("equal", 5, -5, 0)
        self.check("equal", 0, 0, 1)
        self.check("equal", -32768, -32768, 1)
        self.check("equal", 32767, 32767, 1)
        self.check("equal", 32767, -32768, 0)

    def test_beyond_the_bounds_of_words(self):
        self.check("add", 100000, 100000, 3392)
        self.check("sub", -100000, 100000, -3392)
        self.check("mul", 10 ** 20, 3, 0)
        self.check("mul", 65537, 65537, 1)
        self.check("less", 0, 10 ** 20, 1)
        self.check("less", 32768, 0, 0)
        self.check("equal", 65536, 0, 0)
        self.check("equal", 10 ** 20, 10 ** 20, 1)


class NameTest(unittest.TestCase):
    def test_right_names(self):
        for text in ("a", "z", "b2", "k0a", "z999", "abcde", "abcdef", "a12345", "q0z9x8", "q09"):
            self.assertIs(is_name(text), True, text)

    def test_every_letter_and_digit(self):
        for letter in "abcdefghijklmnopqrstuvwxyz":
            self.assertIs(is_name(letter), True, letter)
            self.assertIs(is_name("a" + letter), True, letter)
        for digit in "0123456789":
            self.assertIs(is_name("a" + digit), True, digit)
            self.assertIs(is_name(digit), False, digit)

    def test_words_of_the_forms_are_names_but_else(self):
        for text in ("block", "const", "add", "sub", "mul", "less", "equal", "read", "print", "jump", "branch",
                     "return", "inputs", "move", "r0", "s15", "t"):
            self.assertIs(is_name(text), True, text)
        self.assertIs(is_name("else"), False)

    def test_only_else_itself_is_none(self):
        for text in ("els", "elsea", "else1", "aelse", "elsse", "e"):
            self.assertIs(is_name(text), True, text)

    def test_length(self):
        self.assertIs(is_name(""), False)
        self.assertIs(is_name("abcdefg"), False)
        self.assertIs(is_name("a123456"), False)
        self.assertIs(is_name("a" * 1000), False)

    def test_digit_first(self):
        for text in ("0", "1a", "9abcde", "123456"):
            self.assertIs(is_name(text), False, text)

    def test_capital_letters(self):
        for text in ("A", "Ab", "aB", "abcdeF", "Else", "ELSE"):
            self.assertIs(is_name(text), False, text)

    def test_letters_and_digits_of_other_scripts(self):
        for text in ("\u00e4", "a\u00e4", "\u00df", "\u03b1", "\u0430", "a\u0430", "\uff41", "a\u0301", "\u00aa"):
            self.assertIs(is_name(text), False, ascii(text))
        for text in ("a\u0663", "a\u00b2", "a\uff11", "a\u2460", "\u0663", "a\u0967b"):
            self.assertIs(is_name(text), False, ascii(text))

    def test_spaces(self):
        for text in (" ", " a", "a ", "a b", "a\n", "\na", "a\tb", "a\u00a0"):
            self.assertIs(is_name(text), False, ascii(text))

    def test_other_signs(self):
        for sign in "!\"#$%&'()*+,-./:;<=>?@[\\]^_`{|}~\0\x7f":
            for text in (sign, sign + "a", "a" + sign, "a" + sign + "b"):
                self.assertIs(is_name(text), False, ascii(text))


if __name__ == "__main__":
    unittest.main()
