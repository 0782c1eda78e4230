"""Promise [4]: names, numbers and expressions."""

import ast
import itertools
import unittest

from rerunyard.errors import NoRow
from rerunyard.words import expression, is_name

NO_NAMES = ("tool store row hand end wait take give put get "
            "let draw say start if else while stop now own").split()
SIGNS = {ast.Add: "+", ast.Sub: "-", ast.Mult: "*"}


def n(number):
    return ("number", number)


A, B, C = ("name", "a"), ("name", "b"), ("name", "c")


class Names(unittest.TestCase):
    def test_one_to_eight_letters(self):
        for word in ["a", "z", "m", "ab", "abcdefg", "abcdefgh", "zzzzzzzz"]:
            self.assertIs(is_name(word), True, word)

    def test_each_small_letter(self):
        for letter in "abcdefghijklmnopqrstuvwxyz":
            self.assertIs(is_name(letter), True, letter)

    def test_nine_letters_and_more(self):
        for word in ["abcdefghi", "a" * 9, "a" * 5000]:
            self.assertIs(is_name(word), False)

    def test_no_signs(self):
        self.assertIs(is_name(""), False)

    def test_the_twenty_words_are_none(self):
        self.assertEqual(len(NO_NAMES), 20)
        for word in NO_NAMES:
            self.assertIs(is_name(word), False, word)

    def test_words_near_the_twenty_are_names(self):
        for word in NO_NAMES:
            self.assertIs(is_name(word + "s"), True, word)
            self.assertIs(is_name("x" + word), True, word)

    def test_other_signs(self):
        for code in list(range(32, 127)) + [10]:
            sign = chr(code)
            if not "a" <= sign <= "z":
                for word in [sign, sign + "a", "a" + sign, "a" + sign + "b"]:
                    self.assertIs(is_name(word), False, repr(word))


class Expressions(unittest.TestCase):
    def refused(self, word):
        with self.assertRaises(NoRow, msg=repr(word)) as caught:
            expression(word)
        self.assertIs(caught.exception.__class__, NoRow)

    def test_each_factor(self):
        self.assertEqual(expression("7"), ("number", 7))
        self.assertEqual(expression("abcdefgh"), ("name", "abcdefgh"))
        self.assertEqual(expression("now"), ("now",))
        self.assertEqual(expression("own"), ("own",))
        self.assertEqual(expression("(a)"), A)

    def test_each_letter_and_figure_within_a_word(self):
        for letter in "abcdefghijklmnopqrstuvwxyz":
            self.assertEqual(expression(letter + "x" + letter), ("name", letter + "x" + letter))
        for figure in "123456789":
            self.assertEqual(expression(figure + "0" + figure), ("number", int(figure + "0" + figure)))

    def test_numbers(self):
        for word in ["0", "1", "9", "10", "100", "99999", "100000", "999999"]:
            told = expression(word)
            self.assertEqual(told, ("number", int(word)))
            self.assertIs(told[1].__class__, int)

    def test_no_numbers(self):
        for word in ["00", "01", "007", "000000", "000001", "1000000", "1234567", "9" * 60, "9" * 5000]:
            self.refused(word)
            self.refused("a+" + word)
            self.refused("(" + word + ")")

    def test_no_names(self):
        for word in NO_NAMES:
            if word not in ("now", "own"):
                self.refused(word)
                self.refused("a+" + word)
                self.refused("(" + word + ")*2")
        self.refused("abcdefghi")

    def test_signs(self):
        for sign in "+-*":
            self.assertEqual(expression("a" + sign + "b"), (sign, A, B))

    def test_like_ones_from_left_to_right(self):
        self.assertEqual(expression("a-b-c"), ("-", ("-", A, B), C))
        self.assertEqual(expression("a-b+c"), ("+", ("-", A, B), C))
        self.assertEqual(expression("a+b-c"), ("-", ("+", A, B), C))
        self.assertEqual(expression("a*b*c"), ("*", ("*", A, B), C))

    def test_products_ahead_of_sums(self):
        self.assertEqual(expression("a+b*c"), ("+", A, ("*", B, C)))
        self.assertEqual(expression("a*b+c"), ("+", ("*", A, B), C))
        self.assertEqual(expression("a-b*c-a"), ("-", ("-", A, ("*", B, C)), A))
        self.assertEqual(expression("a*b-c*a"), ("-", ("*", A, B), ("*", C, A)))

    def test_brackets(self):
        self.assertEqual(expression("a-(b-c)"), ("-", A, ("-", B, C)))
        self.assertEqual(expression("(a+b)*c"), ("*", ("+", A, B), C))
        self.assertEqual(expression("a*(b+c)"), ("*", A, ("+", B, C)))
        self.assertEqual(expression("a*(b*c)"), ("*", A, ("*", B, C)))

    def test_five_brackets_within_one_another_and_six(self):
        self.assertEqual(expression("(((((a)))))"), A)
        self.assertEqual(expression("1+(1+(1+(1+(1+(1)))))"),
                         ("+", n(1), ("+", n(1), ("+", n(1), ("+", n(1), ("+", n(1), n(1)))))))
        self.refused("((((((a))))))")
        self.refused("1+(1+(1+(1+(1+(1+(1))))))")
        self.refused("(((((1)))))+((((((1))))))")

    def test_brackets_beside_one_another_are_not_counted_together(self):
        self.assertEqual(expression("(((((a)))))+(((((b)))))"), ("+", A, B))
        self.assertEqual(expression("+".join(["(a)"] * 7))[0], "+")

    def test_sixty_signs_and_sixty_one(self):
        sixty = "11+" + "a-" * 28 + "a"
        self.assertEqual(len(sixty), 60)
        self.assertEqual(expression(sixty)[0], "-")
        self.refused("1" + sixty)
        bracketed = "(" + "a+" * 28 + "ab)"
        self.assertEqual(len(bracketed), 60)
        self.assertEqual(expression(bracketed)[2], ("name", "ab"))
        self.refused("(" + "a+" * 28 + "abc)")

    def test_misplaced_signs(self):
        for word in ["", "-", "-1", "-a", "+1", "*1", "1-", "1+", "1*", "a--b", "a+-b", "a*-b", "a-+b", "a**b",
                     "(-1)", "(-a)+b", "a-(-b)", "()", "a()", "()a", "(a", "a)", ")a(", "((a)", "(a))", "a(b)",
                     "(a)b", "(a)(b)", "2a", "a2", "a(", "(a+)", "(+a)", "+", "*", "(", ")", "now1", "1now",
                     "a<b", "a=b", "a/b", "a//b", "a,b", "a.b", "1.5", "A", "aB", "a_b", "1_0", "~a", "!a"]:
            self.refused(word)

    def test_blanks_and_line_feeds(self):
        for word in [" ", " a", "a ", "a + b", "a b", "1 2", "( a)", "\n", "a\n", "\na", "1\n", "a+\nb", "now\n"]:
            self.refused(word)

    def test_each_other_sign(self):
        for code in list(range(32, 127)) + [10]:
            sign = chr(code)
            if sign not in "abcdefghijklmnopqrstuvwxyz0123456789+-*()":
                for word in [sign, "a" + sign, sign + "a", "a" + sign + "b", "1" + sign + "1"]:
                    self.refused(word)

    def test_words_of_some_thousands_of_signs(self):
        for word in ["1" * 5000, "a" * 5000, "(" * 5000, "(" * 3000 + "a" + ")" * 3000, "a+" * 5000 + "a",
                     "-" * 5000, " " * 5000, "1*" * 9000]:
            self.refused(word)

    def test_every_short_word_against_pythons_own_reading(self):
        for length in range(0, 6):
            for signs in itertools.product("a10+-*()", repeat=length):
                word = "".join(signs)
                told = by_python(word)
                if told is None:
                    self.refused(word)
                else:
                    self.assertEqual(expression(word), told, word)


def by_python(word):
    runs = [run for run in "".join(s if s in "a10" else " " for s in word).split()]
    if any(run.isdigit() and run != "0" and run.startswith("0") for run in runs):
        return None
    try:
        return told_by(ast.parse(word, mode="eval").body)
    except (SyntaxError, LookupError):
        return None


def told_by(node):
    if isinstance(node, ast.BinOp):
        return (SIGNS[type(node.op)], told_by(node.left), told_by(node.right))
    if isinstance(node, ast.Name) and set(node.id) <= set("a"):
        return ("name", node.id)
    if isinstance(node, ast.Constant) and isinstance(node.value, int):
        return ("number", node.value)
    raise LookupError


if __name__ == "__main__":
    unittest.main()
