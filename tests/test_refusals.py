"""Promise [8]: which texts are refused, with which class, and which refusal comes first."""

import unittest

from rerunyard.errors import NoMeasure, NoPlace, NoRow, Open, RunError, TooDeep, TooLong, Twice
from rerunyard.reader import read

FIVE = ["while 1 < 1"] * 5
ENDS = ["end"] * 6
NO_NAMES = ("tool store row hand end wait take give put get "
            "let draw say start if else while stop now own").split()
STATEMENTS = ["wait 1", "take t 1", "give t 1", "put s 1", "get s 1", "let v 1", "draw v r", "say w 1", "start h",
              "if 1 < 1", "while 1 < 1", "stop"]
HEADS = ["tool a 1", "store a 0 1", "row a 1"]


def text(*rows):
    return "\n".join(rows)


class Refusals(unittest.TestCase):
    def refused(self, error, *rows):
        with self.assertRaises(RunError, msg=rows) as caught:
            read(text(*rows))
        self.assertIs(caught.exception.__class__, error, rows)

    def refused_in_hand(self, error, row):
        self.refused(error, "hand h", row, "end")


class TooLongTexts(Refusals):
    def test_120_rows_and_121(self):
        self.assertEqual(len(read(text("hand h", *["stop"] * 118, "end"))[3][0][2]), 118)
        self.refused(TooLong, "hand h", *["stop"] * 119, "end")
        self.refused(TooLong, *["stop"] * 5000)

    def test_a_last_row_without_signs_counts(self):
        self.refused(TooLong, "hand h", *["stop"] * 118, "end", "")
        self.refused(NoRow, "hand h", *["stop"] * 117, "end", "")
        self.refused(TooLong, *[""] * 121)
        self.refused(NoRow, *[""] * 120)

    def test_ahead_of_every_other(self):
        for row in ["", "no", "stop", "end", "tool a 0", "hand h"]:
            self.refused(TooLong, row, *["stop"] * 120)


class NoRows(Refusals):
    def test_rows_without_signs(self):
        self.refused(NoRow, "")
        self.refused(NoRow, "", "")
        self.refused(NoRow, "tool a 1", "")
        self.refused(NoRow, "", "tool a 1")
        self.refused(NoRow, "tool a 1", "", "tool b 1")
        self.refused_in_hand(NoRow, "")

    def test_blanks_ahead_behind_and_twice(self):
        for row in HEADS + ["hand g", "hand g a"]:
            self.refused(NoRow, " " + row)
            self.refused(NoRow, row + " ")
            for k in range(len(row)):
                if row[k] == " ":
                    self.refused(NoRow, row[:k] + " " + row[k:])
        for row in STATEMENTS + ["start h 1 2 3", "else", "end"]:
            self.refused_in_hand(NoRow, " " + row)
            self.refused_in_hand(NoRow, row + " ")
            for k in range(len(row)):
                if row[k] == " ":
                    self.refused_in_hand(NoRow, row[:k] + " " + row[k:])
        self.refused(NoRow, " ")

    def test_a_word_too_many_or_too_few(self):
        for row in ["tool a", "tool a 1 1", "tool", "store a 0", "store a 0 1 1", "store", "row a", "row",
                    "row a " + " ".join(["1"] * 21), "row a " + " ".join(["1"] * 3000), "hand", "hand a b c d e"]:
            self.refused(NoRow, row)
        for row in ["wait", "wait 1 1", "take t", "take", "take t 1 1", "give t", "give t 1 1", "put s", "put s 1 1",
                    "get s", "get s 1 1", "let v", "let v 1 1", "draw v", "draw v r r", "draw", "say w", "say w 1 1",
                    "start", "start h 1 2 3 4", "if", "if 1", "if 1 <", "if 1 < 1 1", "if 1 < 1 < 1", "else 1",
                    "else if", "while", "while 1", "while 1 <", "while 1 < 1 1", "stop 1", "end 1", "end h"]:
            self.refused_in_hand(NoRow, row)

    def test_no_such_first_word(self):
        for row in ["a", "tools a 1", "Tool a 1", "TOOL a 1", "1", "now", "own", "a 1", "-", "# no", "waits 1",
                    "a" * 9000]:
            self.refused(NoRow, row)
            self.refused_in_hand(NoRow, row)

    def test_no_name_where_one_is_due(self):
        for word in NO_NAMES + ["abcdefghi", "A", "a1", "1", "a-b", "", "(a)", "a" * 9000]:
            for row in ["tool {} 1", "store {} 0 1", "row {} 1", "hand {}", "hand h {}", "hand h a {}",
                        "hand h a b {}"]:
                self.refused(NoRow, row.replace("{}", word))
            for row in ["take {} 1", "give {} 1", "put {} 1", "get {} 1", "let {} 1", "draw {} r", "draw v {}",
                        "say {} 1", "start {}", "start {} 1"]:
                self.refused_in_hand(NoRow, row.replace("{}", word))

    def test_no_number_where_one_is_due(self):
        for word in ["a", "now", "-1", "+1", "01", "00", "1000000", "1+1", "(1)", "1a", "", "1.0", "9" * 9000]:
            for row in ["tool a {}", "store a {} 1", "store a 0 {}", "row a {}", "row a 1 {}", "row a {} 1"]:
                self.refused(NoRow, row.replace("{}", word))

    def test_no_expression_where_one_is_due(self):
        for word in ["-1", "tool", "1+", "((((((1))))))", "1" * 7, "a" * 9, "a+" * 30 + "a", "", "<", "(" * 9000]:
            for row in ["wait {}", "take t {}", "give t {}", "put s {}", "get s {}", "let v {}", "say w {}",
                        "start h {}", "start h 1 {}", "start h 1 1 {}", "if {} < 1", "if 1 = {}", "while {} = 1",
                        "while 1 < {}"]:
                self.refused_in_hand(NoRow, row.replace("{}", word))

    def test_no_such_sign(self):
        for sign in [">", "==", "<=", ">=", "+", "-", "", "is", "=<"]:
            self.refused_in_hand(NoRow, "if 1 " + sign + " 1")
            self.refused_in_hand(NoRow, "while 1 " + sign + " 1")
        self.refused_in_hand(NoRow, "if 1<1")
        self.refused_in_hand(NoRow, "if 1 <1")


class NoPlaces(Refusals):
    def test_a_statement_in_no_hand(self):
        for row in STATEMENTS:
            self.refused(NoPlace, row)
            self.refused(NoPlace, "tool a 1", row)
            self.refused(NoPlace, "hand h", "end", row)

    def test_heads_and_hands_in_a_hand(self):
        for row in HEADS + ["hand g"]:
            self.refused(NoPlace, "hand h", row)
            self.refused(NoPlace, "hand h", "while 1 < 1", row, "end", "end")
            self.refused(NoPlace, "hand h", "if 1 < 1", row, "end", "end")
            self.refused(NoPlace, "hand h", "if 1 < 1", "else", row, "end", "end")

    def test_heads_behind_a_hand(self):
        for row in HEADS:
            self.refused(NoPlace, "hand h", "end", row)
            self.refused(NoPlace, "hand h", "end", "hand g", "end", row)

    def test_else(self):
        self.refused(NoPlace, "else")
        self.refused(NoPlace, "hand h", "end", "else")
        self.refused(NoPlace, "hand h", "else", "end")
        self.refused(NoPlace, "hand h", "while 1 < 1", "else", "end", "end")
        self.refused(NoPlace, "hand h", "if 1 < 1", "else", "else", "end", "end")
        self.refused(NoPlace, "hand h", "if 1 < 1", "end", "else", "end")
        self.refused(NoPlace, "hand h", "if 1 < 1", "while 1 < 1", "else", "end", "end", "end")
        self.refused(NoPlace, "hand h", "if 1 < 1", "else", "if 1 < 1", "end", "else", "end", "end")

    def test_end(self):
        self.refused(NoPlace, "end")
        self.refused(NoPlace, "tool a 1", "end")
        self.refused(NoPlace, "hand h", "end", "end")
        self.refused(NoPlace, "hand h", "if 1 < 1", "else", "end", "end", "end")


class TooDeeps(Refusals):
    def test_the_seventh_body(self):
        for row in ["if 1 < 1", "while 1 < 1", "if 1 = 1", "while 1 = 1"]:
            self.refused(TooDeep, "hand h", *FIVE, row, *ENDS, "end")
            self.refused(TooDeep, "hand h", *FIVE, row)
            self.refused(TooDeep, "hand h", *["if 1 < 1"] * 5, row)
            self.refused(TooDeep, "hand h", *["if 1 < 1"] * 5, "else", row)

    def test_the_sixth_body_is_none(self):
        read(text("hand h", *FIVE, *ENDS))
        read(text("hand h", *FIVE[1:], "if 1 < 1", "else", *ENDS))


class NoMeasures(Refusals):
    def test_tools(self):
        for count in [0, 10, 99, 999999]:
            self.refused(NoMeasure, f"tool a {count}")

    def test_stores(self):
        for first, most in [(0, 0), (1, 0), (0, 1000), (1000, 1000), (2, 1), (999, 998), (1000, 999), (0, 999999)]:
            self.refused(NoMeasure, f"store a {first} {most}")

    def test_rows(self):
        for numbers in ["1000", "1 1000", "1000 1", "999999", "1 2 1000 3"]:
            self.refused(NoMeasure, "row a " + numbers)


class Twices(Refusals):
    def test_tools_and_stores(self):
        for one in ["tool a 1", "store a 0 1"]:
            for other in ["tool a 2", "store a 1 2"]:
                self.refused(Twice, one, other)
                self.refused(Twice, one, "tool b 1", "row a 1", "store c 0 1", other)

    def test_rows(self):
        self.refused(Twice, "row a 1", "row a 1")
        self.refused(Twice, "row a 1", "row b 1", "row a 2 3")

    def test_hands(self):
        self.refused(Twice, "hand a", "end", "hand a", "end")
        self.refused(Twice, "hand a", "end", "hand b", "end", "hand a x", "end")

    def test_names_of_a_hand(self):
        for names in ["a a", "a a b", "a b a", "b a a", "a a a", "h h"]:
            self.refused(Twice, "hand h " + names, "end")


class Opens(Refusals):
    def test_bodies_that_are_not_ended(self):
        self.refused(Open, "hand h")
        self.refused(Open, "hand h", "stop")
        self.refused(Open, "hand h", "if 1 < 1", "end")
        self.refused(Open, "hand h", "if 1 < 1", "else", "end")
        self.refused(Open, "hand h", "while 1 < 1")
        self.refused(Open, "hand g", "end", "hand h")
        self.refused(Open, "hand h", *FIVE, *["end"] * 5)


class WhichComesFirst(Refusals):
    def test_no_row_ahead_of_no_place(self):
        self.refused(NoRow, "wait -1")
        self.refused(NoRow, "else 1")
        self.refused(NoRow, "end end")
        self.refused(NoRow, "hand h", "tool a")
        self.refused(NoRow, "hand h", "end", "row a")

    def test_no_row_ahead_of_too_deep(self):
        self.refused(NoRow, "hand h", *FIVE, "if 1 <")
        self.refused(NoRow, "hand h", *FIVE, "while 1 < -1")

    def test_no_row_ahead_of_no_measure(self):
        self.refused(NoRow, "tool now 0")
        self.refused(NoRow, "store a 5 0a")
        self.refused(NoRow, "row a 1000 x")
        self.refused(NoRow, "row a" + " 1000" * 21)

    def test_no_row_ahead_of_twice(self):
        self.refused(NoRow, "tool a 1", "tool a x")
        self.refused(NoRow, "hand h a a b b")
        self.refused(NoRow, "hand h a a now")

    def test_no_place_ahead_of_too_deep(self):
        self.refused(NoPlace, "hand h", *FIVE, "hand g")

    def test_no_place_ahead_of_no_measure(self):
        self.refused(NoPlace, "hand h", "tool a 0")
        self.refused(NoPlace, "hand h", "end", "store a 2 1")
        self.refused(NoPlace, "hand h", "end", "row a 1000")

    def test_no_place_ahead_of_twice(self):
        self.refused(NoPlace, "tool a 1", "hand h", "end", "tool a 1")
        self.refused(NoPlace, "hand h", "hand h")
        self.refused(NoPlace, "hand h", "hand g a a")

    def test_no_measure_ahead_of_twice(self):
        self.refused(NoMeasure, "tool a 1", "tool a 0")
        self.refused(NoMeasure, "tool a 1", "store a 2 1")
        self.refused(NoMeasure, "row a 1", "row a 1000")

    def test_the_first_faulty_row(self):
        faulty = [(NoRow, "tool a"), (NoPlace, "stop"), (NoMeasure, "tool a 0"), (Twice, "hand g a a")]
        for error, row in faulty:
            for other, behind in faulty:
                self.refused(error, row, behind)
                self.refused(error, "tool b 1", row, "row b 1", behind, "hand h")

    def test_the_first_faulty_row_in_a_hand(self):
        faulty = [(NoRow, "wait"), (NoPlace, "else"), (TooDeep, "if 1 < 1")]
        for error, row in faulty:
            for other, behind in faulty:
                self.refused(error, "hand h", *FIVE, row, behind)
                self.refused(error, "hand h", *FIVE, "stop", row, "stop", behind, *ENDS)

    def test_any_row_ahead_of_a_body_that_is_not_ended(self):
        for error, row in [(NoRow, "wait"), (NoPlace, "else"), (NoPlace, "tool a 0")]:
            self.refused(error, "hand h", row)
        self.refused(TooDeep, "hand h", *FIVE, "if 1 < 1")
        self.refused(Twice, "hand h a a")
        self.refused(NoRow, "hand h", "")


if __name__ == "__main__":
    unittest.main()
