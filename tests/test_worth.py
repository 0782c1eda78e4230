"""Promise [5]: the worth of an expression."""

import random
import unittest

from rerunyard.words import expression, worth

BIG = (None, ("big",))


def of(word, values=None, now=0, own=0):
    return worth(expression(word), {} if values is None else values, now, own)


def unknown(name):
    return (None, ("unknown", name))


class Worths(unittest.TestCase):
    def test_each_kind(self):
        self.assertEqual(worth(("number", 12), {}, 3, 4), (12, None))
        self.assertEqual(worth(("name", "a"), {"a": -5}, 3, 4), (-5, None))
        self.assertEqual(worth(("now",), {}, 3, 4), (3, None))
        self.assertEqual(worth(("own",), {}, 3, 4), (4, None))
        self.assertEqual(worth(("+", ("number", 2), ("now",)), {}, 3, 4), (5, None))
        self.assertEqual(worth(("-", ("number", 2), ("own",)), {}, 3, 4), (-2, None))
        self.assertEqual(worth(("*", ("now",), ("own",)), {}, 3, 4), (12, None))

    def test_left_and_right_are_not_swapped(self):
        self.assertEqual(of("a-b", {"a": 10, "b": 3}), (7, None))
        self.assertEqual(of("10-4-3"), (3, None))
        self.assertEqual(of("10-(4-3)"), (9, None))
        self.assertEqual(of("2+3*4"), (14, None))
        self.assertEqual(of("(2+3)*4"), (20, None))

    def test_noughts_are_values(self):
        self.assertEqual(of("a", {"a": 0}), (0, None))
        self.assertEqual(of("a*b", {"a": 0, "b": -1}), (0, None))
        self.assertEqual(of("now"), (0, None))

    def test_names_of_kinds_are_names(self):
        self.assertEqual(of("number+name", {"number": 2, "name": 3}), (5, None))
        self.assertEqual(of("number", {"name": 3}), unknown("number"))

    def test_unknown(self):
        self.assertEqual(of("a"), unknown("a"))
        self.assertEqual(of("a", {"b": 1}), unknown("a"))
        self.assertEqual(of("1+a"), unknown("a"))
        self.assertEqual(of("0*a"), unknown("a"))

    def test_the_first_unknown(self):
        self.assertEqual(of("a+b"), unknown("a"))
        self.assertEqual(of("b+a"), unknown("b"))
        self.assertEqual(of("a+b", {"a": 1}), unknown("b"))
        self.assertEqual(of("a+b*c"), unknown("a"))
        self.assertEqual(of("1-(1*b+a)"), unknown("b"))

    def test_a_million_either_way(self):
        self.assertEqual(of("999999+1"), (1000000, None))
        self.assertEqual(of("999999+2"), BIG)
        self.assertEqual(of("0-999999-1"), (-1000000, None))
        self.assertEqual(of("0-999999-2"), BIG)
        self.assertEqual(of("1000*1000"), (1000000, None))
        self.assertEqual(of("a*b", {"a": 1000, "b": -1000}), (-1000000, None))
        self.assertEqual(of("a*b", {"a": 1000001, "b": 1}), BIG)
        self.assertEqual(of("a*b", {"a": 1000001, "b": -1}), BIG)
        self.assertEqual(of("a+b", {"a": -1000000, "b": -1}), BIG)
        self.assertEqual(of("a-b", {"a": 1000000, "b": -1}), BIG)

    def test_a_part_that_is_big_though_the_whole_is_not(self):
        self.assertEqual(of("999999+2-5"), BIG)
        self.assertEqual(of("0*(1000*1001)"), BIG)

    def test_only_sums_differences_and_products_are_big(self):
        far = 10 ** 29
        self.assertEqual(worth(("number", 1000001), {}, 0, 0), (1000001, None))
        self.assertEqual(of("a", {"a": far}), (far, None))
        self.assertEqual(of("(a)", {"a": -far}), (-far, None))
        self.assertEqual(of("now", now=far, own=1), (far, None))
        self.assertEqual(of("own", now=1, own=far), (far, None))
        self.assertEqual(of("now-a", {"a": far}, now=far), (0, None))
        self.assertEqual(of("a+0", {"a": 1000001}), BIG)

    def test_which_stop_comes_first(self):
        self.assertEqual(of("999999+2+a"), BIG)
        self.assertEqual(of("a+999999*2"), unknown("a"))
        self.assertEqual(of("999999*2+a"), BIG)
        self.assertEqual(of("999999+a*2"), unknown("a"))
        self.assertEqual(of("(999999+a)*(999999*9)"), unknown("a"))
        self.assertEqual(of("(999999*9)*(999999+a)"), BIG)

    def test_what_is_handed_in_stays(self):
        for word in ["a+b", "a+c", "a*b"]:
            values = {"a": 1000000, "b": 7}
            of(word, values, 1, 2)
            self.assertEqual(list(values.items()), [("a", 1000000), ("b", 7)])

    def test_against_pythons_own_reckoning(self):
        chance = random.Random(5)
        for count in range(2000):
            word = some_word(chance, 3)
            if len(word) <= 60:
                values = {"a": chance.randrange(-9, 10), "b": chance.randrange(-9, 10)}
                meant = eval(word, {"now": 6, "own": 3, **values})
                if abs(meant) < 1000:
                    told = of(word, values, 6, 3)
                    self.assertIn(told, [(meant, None), BIG], word)
                    if "*" not in word:
                        self.assertEqual(told, (meant, None), word)


def some_word(chance, depth):
    if depth == 0 or chance.random() < 0.2:
        return chance.choice(["a", "b", "now", "own", str(chance.randrange(30))])
    word = some_word(chance, depth - 1) + chance.choice("+-*") + some_word(chance, depth - 1)
    return "(" + word + ")" if chance.random() < 0.5 else word


if __name__ == "__main__":
    unittest.main()
