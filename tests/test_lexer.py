import unittest

from clockwright.lexer import RESERVED, is_name, tokenize
from helpers import failure

SIGNS = "=== == != <= >= << >> <- && || .. ~ - + * & | ^ < > ! ? : = , ; ( ) [ ] { }".split()
WORDS = "unit end in out wire reg var when tick use each given else func give if case loop".split()


def kinds(text):
    return [token[:2] for token in tokenize(text)]


def vector(text):
    found = tokenize(text)
    assert len(found) == 1 and found[0][0] == "vector" and found[0][2] == 0, found
    return found[0][1]


class SeparatorsTest(unittest.TestCase):
    def test_no_tokens(self):
        for text in ("", " ", "\t\n \n", "# only a comment", "#", "# one\n# two", "#\n"):
            self.assertEqual(tokenize(text), [])

    def test_separators(self):
        self.assertEqual(tokenize("a b\tc\nd"), [("name", "a", 0), ("name", "b", 2), ("name", "c", 4), ("name", "d", 6)])

    def test_comments(self):
        self.assertEqual(tokenize("a # b $ ' 00\nc"), [("name", "a", 0), ("name", "c", 13)])
        self.assertEqual(tokenize("a#"), [("name", "a", 0)])
        self.assertEqual(tokenize("a #x#\n#y\n+"), [("name", "a", 0), ("sign", "+", 9)])
        self.assertEqual(tokenize("4'b1#0\n1"), [("vector", "0001", 0), ("number", 1, 7)])

    def test_other_characters_do_not_separate(self):
        for character in "\r\f\v":
            self.assertEqual(failure(tokenize, "a" + character + "b"), ("Malformed", 1))


class TokensTest(unittest.TestCase):
    def test_reserved_words(self):
        self.assertEqual(RESERVED, tuple(WORDS))
        for word in WORDS:
            self.assertEqual(tokenize(" " + word), [("word", word, 1)])

    def test_names_that_resemble_reserved_words(self):
        for name in ("units", "End", "in_", "i", "loop1", "IF", "xunit", "wir"):
            self.assertEqual(tokenize(name), [("name", name, 0)])

    def test_names(self):
        for name in ("a", "Z", "a1", "b_", "x_9_Y", "x", "z", "b0", "d", "h"):
            self.assertEqual(tokenize(name + " "), [("name", name, 0)])

    def test_the_length_of_names(self):
        self.assertEqual(tokenize("a" * 40), [("name", "a" * 40, 0)])
        self.assertEqual(failure(tokenize, "a" * 41), ("Malformed", 0))
        self.assertEqual(failure(tokenize, "b " + "a" * 41 + " $"), ("Malformed", 2))

    def test_a_name_does_not_begin_with_an_underscore(self):
        self.assertEqual(failure(tokenize, "a _b"), ("Malformed", 2))

    def test_is_name(self):
        for text in ("a", "A_1", "units", "q" * 40):
            self.assertIs(is_name(text), True)
        for text in ("", "1a", "_a", "a-b", "a b", " a", "a ", "a.b", "q" * 41, "a\n") + RESERVED:
            self.assertIs(is_name(text), False)

    def test_numbers(self):
        for number in (0, 1, 9, 10, 907, 2 ** 64 - 1):
            self.assertEqual(tokenize(str(number)), [("number", number, 0)])

    def test_numbers_that_are_too_large(self):
        for number in (2 ** 64, 2 ** 64 + 1, 10 ** 20, 10 ** 6000):
            text = "9" * 6001 if number == 10 ** 6000 else str(number)
            self.assertEqual(failure(tokenize, "+" + text), ("Malformed", 1))

    def test_leading_zeros(self):
        for text in ("00", "01", "0" * 5000, "0" * 30 + "1"):
            self.assertEqual(failure(tokenize, " " + text), ("Malformed", 1))

    def test_each_sign(self):
        for sign in SIGNS:
            self.assertEqual(tokenize("a " + sign + " b"), [("name", "a", 0), ("sign", sign, 2), ("name", "b", 3 + len(sign))])

    def test_longest_signs(self):
        cases = {
            "====": ["===", "="],
            "=====": ["===", "=="],
            "!==": ["!=", "="],
            "<<=": ["<<", "="],
            "<<-": ["<<", "-"],
            "<-<": ["<-", "<"],
            "<=-": ["<=", "-"],
            ">>>": [">>", ">"],
            ">=>": [">=", ">"],
            "&&&": ["&&", "&"],
            "|||": ["||", "|"],
            "->": ["-", ">"],
            "=<": ["=", "<"],
            "!!": ["!", "!"],
            "--": ["-", "-"],
        }
        for text, signs in cases.items():
            self.assertEqual(kinds(text), [("sign", sign) for sign in signs])

    def test_dots(self):
        self.assertEqual(tokenize("0..2"), [("number", 0, 0), ("sign", "..", 1), ("number", 2, 3)])
        self.assertEqual(failure(tokenize, "a.b"), ("Malformed", 1))
        self.assertEqual(failure(tokenize, "a...b"), ("Malformed", 3))

    def test_unexpected_characters(self):
        for character in "$@%/\\\"`_'.":
            self.assertEqual(failure(tokenize, "ab " + character), ("Malformed", 3))

    def test_the_example_of_the_document(self):
        self.assertEqual(tokenize("q <- 4'b1x + 13;"), [
            ("name", "q", 0), ("sign", "<-", 2), ("vector", "001x", 5),
            ("sign", "+", 11), ("number", 13, 13), ("sign", ";", 15),
        ])


class VectorsTest(unittest.TestCase):
    def test_base_b(self):
        self.assertEqual(vector("4'b01xz"), "01xz")
        self.assertEqual(vector("6'b1z"), "00001z")
        self.assertEqual(vector("1'b0001"), "1")
        self.assertEqual(vector("2'b00x1"), "x1")
        self.assertEqual(vector("64'b" + "x" * 64), "x" * 64)

    def test_base_h(self):
        self.assertEqual(vector("32'h01234567"), f"{0x01234567:032b}")
        self.assertEqual(vector("32'h89abcdef"), f"{0x89abcdef:032b}")
        self.assertEqual(vector("8'hxz"), "xxxxzzzz")
        self.assertEqual(vector("12'hx"), "00000000xxxx")
        self.assertEqual(vector("5'h1f"), "11111")
        self.assertEqual(vector("2'h0003"), "11")
        self.assertEqual(vector("64'h" + "f" * 16), "1" * 64)

    def test_base_d(self):
        self.assertEqual(vector("4'd15"), "1111")
        self.assertEqual(vector("8'd9"), "00001001")
        self.assertEqual(vector("1'd0"), "0")
        self.assertEqual(vector("4'd" + "0" * 5000 + "7"), "0111")
        self.assertEqual(vector("4'd000"), "0000")
        self.assertEqual(vector(f"64'd{2 ** 64 - 1}"), "1" * 64)

    def test_bits_and_numbers_that_do_not_fit(self):
        for text in ("4'd16", "1'd2", f"64'd{2 ** 64}", "64'd" + "9" * 6000, "2'b100", "1'b01x1", "2'bx00",
                     "3'bz001", "4'h1f", "3'hx", "1'h2", "3'h8", "5'hx0", "64'h10000000000000000"):
            self.assertEqual(failure(tokenize, "  " + text), ("Malformed", 2), text)

    def test_widths(self):
        self.assertEqual(vector("1'b1"), "1")
        self.assertEqual(vector("64'b1"), "0" * 63 + "1")
        for width in ("0", "65", "00", "04", "064", "100", "9" * 5000):
            self.assertEqual(failure(tokenize, width + "'b1"), ("Malformed", 0), width)

    def test_digits_outside_of_the_base(self):
        for text in ("4'b2", "4'b1a", "4'b1_0", "4'bX", "4'hg", "4'hA", "4'hX", "4'h_", "4'dx", "4'dz", "4'd1a", "4'd1_"):
            self.assertEqual(failure(tokenize, "+ " + text + " $"), ("Malformed", 2), text)

    def test_bases(self):
        for text in ("4'", "4' b1", "4'o7", "4'B1", "4'H1", "4'1", "4''b1", "4'x", "4'_", "4'b", "4'b ", "4'd+", "4'h;", "4'b#1"):
            self.assertEqual(failure(tokenize, "a " + text), ("Malformed", 2), text)

    def test_separators_inside(self):
        self.assertEqual(failure(tokenize, "4 'b1"), ("Malformed", 2))
        self.assertEqual(failure(tokenize, "4'b 1"), ("Malformed", 0))

    def test_what_follows(self):
        self.assertEqual(tokenize("4'b1+2"), [("vector", "0001", 0), ("sign", "+", 4), ("number", 2, 5)])
        self.assertEqual(failure(tokenize, "4'b1'b1"), ("Malformed", 4))


class RunsTest(unittest.TestCase):
    def test_letters_and_underscores_behind_digits(self):
        for text in ("12a", "0x", "1_", "7Z9", "0b1", "00a"):
            self.assertEqual(failure(tokenize, "a + " + text), ("Malformed", 4), text)

    def test_an_apostrophe_alone(self):
        for text, at in (("'", 0), ("a'b1", 1), ("a '", 2), ("+'b1", 1), (")'", 1), ("unit'b0", 4)):
            self.assertEqual(failure(tokenize, text), ("Malformed", at), text)

    def test_digits_take_all_digits(self):
        self.assertEqual(tokenize("123 45"), [("number", 123, 0), ("number", 45, 4)])


class ErrorsTest(unittest.TestCase):
    def test_the_length_of_texts(self):
        self.assertEqual(tokenize(" " * 20000), [])
        self.assertEqual(len(tokenize("a " * 10000)), 10000)
        self.assertEqual(failure(tokenize, " " * 20001), ("Unbounded", "text"))

    def test_the_length_comes_first(self):
        self.assertEqual(failure(tokenize, "$" * 20001), ("Unbounded", "text"))

    def test_the_first_malformed_token_is_told(self):
        self.assertEqual(failure(tokenize, "a 00 $ " + "b" * 50), ("Malformed", 2))
        self.assertEqual(failure(tokenize, "a $ 00"), ("Malformed", 2))
        self.assertEqual(failure(tokenize, "# $\n 4'b2 $"), ("Malformed", 5))


if __name__ == "__main__":
    unittest.main()
