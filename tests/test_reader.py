"""Promises [2], [6] and [7]: the forms of rows, and what a program is when it is read."""

import random
import unittest

from rerunyard.reader import read

ONE = ("number", 1)


def text(*rows):
    return "\n".join(rows)


def body_of(*rows):
    tools, stores, drawn, hands = read(text("hand h", *rows, "end"))
    return hands[0][2]


class Heads(unittest.TestCase):
    def test_tools(self):
        self.assertEqual(read("tool saw 1"), ([("saw", 1)], [], [], []))
        self.assertEqual(read(text("tool saw 9", "tool axe 2")), ([("saw", 9), ("axe", 2)], [], [], []))

    def test_stores(self):
        self.assertEqual(read("store bin 0 1"), ([], [("bin", 0, 1)], [], []))
        self.assertEqual(read("store bin 1 1"), ([], [("bin", 1, 1)], [], []))
        self.assertEqual(read("store bin 999 999"), ([], [("bin", 999, 999)], [], []))
        self.assertEqual(read("store bin 0 999"), ([], [("bin", 0, 999)], [], []))

    def test_rows(self):
        self.assertEqual(read("row r 0"), ([], [], [("r", [0])], []))
        twenty = [0, 999] * 10
        row = "row r " + " ".join(str(one) for one in twenty)
        self.assertEqual(read(row), ([], [], [("r", twenty)], []))

    def test_any_order_ahead_of_hands(self):
        told = read(text("row b 1 2", "tool z 1", "store y 2 3", "row a 3", "tool x 4", "store w 0 5", "hand h", "end"))
        self.assertEqual(told, ([("z", 1), ("x", 4)], [("y", 2, 3), ("w", 0, 5)], [("b", [1, 2]), ("a", [3])],
                                [("h", [], [])]))

    def test_hands(self):
        told = read(text("hand a", "end", "hand b x", "end", "hand c x y", "end", "hand d x y z", "end"))
        self.assertEqual(told, ([], [], [], [("a", [], []), ("b", ["x"], []), ("c", ["x", "y"], []),
                                             ("d", ["x", "y", "z"], [])]))

    def test_a_program_is_a_tuple_of_lists(self):
        told = read(text("tool t 1", "store s 0 1", "row r 1", "hand h a", "end"))
        self.assertIs(told.__class__, tuple)
        self.assertEqual([one.__class__ for one in told], [list] * 4)
        self.assertEqual([one[0].__class__ for one in told], [tuple] * 4)
        self.assertIs(told[2][0][1].__class__, list)
        self.assertIs(told[3][0][1].__class__, list)
        self.assertIs(told[3][0][2].__class__, list)

    def test_kinds_of_names_that_may_be_alike(self):
        told = read(text("tool a 1", "row a 1", "hand a a", "end", "hand b a", "end"))
        self.assertEqual(told, ([("a", 1)], [], [("a", [1])], [("a", ["a"], []), ("b", ["a"], [])]))
        self.assertEqual(read(text("store a 0 1", "row a 1"))[1:3], ([("a", 0, 1)], [("a", [1])]))


class Statements(unittest.TestCase):
    def test_each_simple_form(self):
        n = ("+", ("name", "n"), ("now",))
        told = body_of("wait n+now", "take t n+now", "give t n+now", "put s n+now", "get s n+now", "let v n+now",
                       "draw v r", "say w n+now", "stop")
        self.assertEqual(told, [("wait", 2, n), ("take", 3, "t", n), ("give", 4, "t", n), ("put", 5, "s", n),
                                ("get", 6, "s", n), ("let", 7, "v", n), ("draw", 8, "v", "r"), ("say", 9, "w", n),
                                ("stop", 10)])

    def test_start(self):
        told = body_of("start g", "start g 1", "start g a 1", "start g a 1 own")
        a = ("name", "a")
        self.assertEqual(told, [("start", 2, "g", []), ("start", 3, "g", [ONE]), ("start", 4, "g", [a, ONE]),
                                ("start", 5, "g", [a, ONE, ("own",)])])

    def test_if_without_else(self):
        self.assertEqual(body_of("if a < 1", "stop", "end"),
                         [("if", 2, "<", ("name", "a"), ONE, [("stop", 3)], [])])

    def test_if_with_else(self):
        self.assertEqual(body_of("if 1 = a", "wait 1", "else", "stop", "wait 1", "end", "stop"),
                         [("if", 2, "=", ONE, ("name", "a"), [("wait", 3, ONE)], [("stop", 5), ("wait", 6, ONE)]),
                          ("stop", 8)])

    def test_while(self):
        self.assertEqual(body_of("while a < 1", "stop", "end", "while 1 = a", "end", "stop"),
                         [("while", 2, "<", ("name", "a"), ONE, [("stop", 3)]),
                          ("while", 5, "=", ONE, ("name", "a"), []), ("stop", 7)])

    def test_bodies_without_statements(self):
        self.assertEqual(body_of(), [])
        self.assertEqual(body_of("if 1 < 1", "end"), [("if", 2, "<", ONE, ONE, [], [])])
        self.assertEqual(body_of("if 1 < 1", "else", "end"), [("if", 2, "<", ONE, ONE, [], [])])
        self.assertEqual(body_of("if 1 < 1", "else", "stop", "end"), [("if", 2, "<", ONE, ONE, [], [("stop", 4)])])

    def test_bodies_within_bodies(self):
        told = body_of("while 1 = 1", "if 1 < 1", "if 1 = 1", "stop", "end", "else", "while 1 < 1", "end", "if 1 < 1",
                       "else", "stop", "end", "end", "stop", "end")
        self.assertEqual(told, [
            ("while", 2, "=", ONE, ONE, [
                ("if", 3, "<", ONE, ONE,
                 [("if", 4, "=", ONE, ONE, [("stop", 5)], [])],
                 [("while", 8, "<", ONE, ONE, []), ("if", 10, "<", ONE, ONE, [], [("stop", 12)])]),
                ("stop", 15)])])

    def test_bodies_six_deep(self):
        told = body_of(*["while 1 < 1"] * 5, "stop", *["end"] * 5)
        for depth in range(5):
            self.assertEqual(told[0][:2], ("while", depth + 2))
            told = told[0][5]
        self.assertEqual(told, [("stop", 7)])

    def test_bodies_six_deep_by_else(self):
        told = body_of(*["if 1 < 1", "else"] * 5, "stop", *["end"] * 5)
        for depth in range(5):
            self.assertEqual(told[0][5], [])
            told = told[0][6]
        self.assertEqual(told, [("stop", 12)])

    def test_six_deep_more_than_once(self):
        deep = ["if 1 < 1"] * 5 + ["else", "stop"] + ["end"] * 5
        self.assertEqual(len(body_of(*deep * 3)), 3)

    def test_rows_are_counted_in_the_whole_text(self):
        told = read(text("tool t 1", "row r 1", "hand a", "stop", "end", "hand b", "stop", "end"))
        self.assertEqual(told[3], [("a", [], [("stop", 4)]), ("b", [], [("stop", 7)])])

    def test_names_need_not_be_there(self):
        self.assertEqual(body_of("take h 1", "draw h h", "start x"),
                         [("take", 2, "h", ONE), ("draw", 3, "h", "h"), ("start", 4, "x", [])])

    def test_a_hundred_and_twenty_rows(self):
        told = body_of(*["stop"] * 118)
        self.assertEqual(told, [("stop", k) for k in range(2, 120)])


class NewLists(unittest.TestCase):
    TEXT = text("tool t 1", "store s 0 1", "row r 1 2", "row q 1 2", "hand h a b", "start h 1 2", "start h 1 2",
                "start h", "if 1 < 1", "end", "if 1 < 1", "else", "end", "while 1 < 1", "end", "end",
                "hand g a b", "end")

    def test_no_two_lists_are_one(self):
        lists = lists_in(read(self.TEXT)) + lists_in(read(self.TEXT))
        self.assertEqual(len({id(one) for one in lists}), len(lists))

    def test_the_same_text_read_again(self):
        told = read(self.TEXT)
        again = read(self.TEXT)
        self.assertEqual(told, again)
        for one in lists_in(told):
            one.append("changed")
        self.assertEqual(read(self.TEXT), again)


def lists_in(thing):
    if not isinstance(thing, (list, tuple)):
        return []
    return ([thing] if isinstance(thing, list) else []) + [one for part in thing for one in lists_in(part)]


class ManyPrograms(unittest.TestCase):
    def test_programs_that_were_made_with_their_texts(self):
        for seed in range(400):
            maker = Maker(seed)
            program = maker.program()
            self.assertLessEqual(len(maker.rows), 120)
            self.assertEqual(read(text(*maker.rows)), program, seed)


class Maker:
    """Makes a program and, at once, the rows of its text."""

    EXPRESSIONS = [("1", ONE), ("a", ("name", "a")), ("now", ("now",)), ("(own)", ("own",)),
                   ("a-1", ("-", ("name", "a"), ONE))]

    def __init__(self, seed):
        self.chance = random.Random(seed)
        self.rows = []

    def row(self, *words):
        self.rows.append(" ".join(str(word) for word in words))
        return len(self.rows)

    def program(self):
        tools, stores, drawn, hands = [], [], [], []
        for k in range(1 + self.chance.randrange(5)):
            word = self.chance.choice(["tool", "store", "row"])
            name = "xyzuvw"[k]
            if word == "tool":
                tools.append((name, self.chance.randint(1, 9)))
                self.row(word, *tools[-1])
            elif word == "store":
                most = self.chance.randint(1, 999)
                stores.append((name, self.chance.randint(0, most), most))
                self.row(word, *stores[-1])
            else:
                drawn.append((name, [self.chance.randint(0, 999) for one in range(self.chance.randint(1, 20))]))
                self.row(word, name, *drawn[-1][1])
        for k in range(self.chance.randrange(4)):
            names = ["a", "b", "c"][:self.chance.randrange(4)]
            self.row("hand", "xyz"[k], *names)
            hands.append(("xyz"[k], names, self.body(1)))
            self.row("end")
        return (tools, stores, drawn, hands)

    def body(self, depth):
        return [self.statement(depth) for one in range(self.chance.randrange(4)) if len(self.rows) < 90]

    def statement(self, depth):
        (first, e), (second, f) = self.chance.choice(self.EXPRESSIONS), self.chance.choice(self.EXPRESSIONS)
        word = self.chance.choice(["wait", "take", "give", "put", "get", "let", "draw", "say", "start", "stop"]
                                  + (["if", "if", "if", "while", "while"] if depth < 6 else []))
        if word in ("if", "while"):
            sign = self.chance.choice("<=")
            told = (word, self.row(word, first, sign, second), sign, e, f, self.body(depth + 1))
            if word == "if":
                told = told + (self.second_body(depth + 1),)
            self.row("end")
            return told
        if word == "wait":
            return (word, self.row(word, first), e)
        if word == "draw":
            return (word, self.row(word, "a", "r"), "a", "r")
        if word == "start":
            return (word, self.row(word, "h", first, second), "h", [e, f])
        if word == "stop":
            return (word, self.row(word))
        return (word, self.row(word, "t", first), "t", e)

    def second_body(self, depth):
        if self.chance.random() < 0.5:
            return []
        self.row("else")
        return self.body(depth)


if __name__ == "__main__":
    unittest.main()
