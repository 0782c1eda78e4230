"""Promise [16]: each stop, which is first, and run_until; by statements and by code, with either agenda."""

import unittest

from helper import KINDS, bring, program, start
from rerunyard.runs import run_until


class Case(unittest.TestCase):
    def yards(self, rows, outer):
        for kind, agenda in KINDS:
            yield kind(program(*rows), outer, agenda())

    def ends(self, rows, outer, end, log=None, until=1000):
        for yard in self.yards(rows, outer):
            self.assertEqual(run_until(yard, until), end)
            self.assertEqual(yard.end(), None if end in [("done",), ("until",)] else end)
            if log is not None:
                self.assertEqual(yard.log()[-len(log):] if log else yard.log(), log)
            if yard.end() is not None:
                self.stays(yard, end)

    def stays(self, yard, end):
        log, view = yard.log(), yard.view()
        self.assertIsNone(yard.next_moment())
        yard.step()
        self.assertEqual((yard.log(), yard.view(), yard.end(), yard.next_moment()), (log, view, end, None))
        self.assertEqual(run_until(yard, 10 ** 6), end)
        self.assertEqual((yard.log(), yard.view()), (log, view))

    def of_body(self, body, end, log=None, head=()):
        self.ends([*head, "hand h", *body, "end"], [start(2, "h")], end, log)


class Endless(Case):
    def test_a_100th_and_a_101st_statement(self):
        self.of_body(["say w 1"] * 100, ("done",), [(2, 1, "says", "w", 1)] * 100 + [(2, 1, "ends")])
        self.of_body(["say w 1"] * 101, ("endless", 1), [(2, 1, "begins", "h")] + [(2, 1, "says", "w", 1)] * 100)

    def test_a_100th_that_rests_or_stops(self):
        self.of_body(["say w 1"] * 99 + ["wait 1", "say w 2"], ("done",), [(3, 1, "says", "w", 2), (3, 1, "ends")])
        self.of_body(["say w 1"] * 99 + ["stop"], ("done",), [(2, 1, "ends")])
        self.of_body(["say w 1"] * 100 + ["stop"], ("endless", 1), [(2, 1, "says", "w", 1)])
        self.of_body(["say w 1"] * 100 + ["wait 1"], ("endless", 1), [(2, 1, "says", "w", 1)])

    def test_whiles_count_each_time_they_are_begun(self):
        self.of_body(["while 0 < 1", "end"], ("endless", 1), [(2, 1, "begins", "h")])
        # 1 let, 33 times while, say and let, and the while that doesn't hold: 101.
        self.of_body(["let n 0", "while n < 33", "say w n", "let n n+1", "end"], ("endless", 1),
                     [(2, 1, "says", "w", 32)])
        self.of_body(["let n 1", "while n < 33", "say w n", "let n n+1", "end", "say w 0", "say w 0"], ("done",),
                     [(2, 1, "says", "w", 0), (2, 1, "ends")])
        self.of_body(["let n 1", "while n < 33", "say w n", "let n n+1", "end", "say w 0", "say w 0", "say w 0"],
                     ("endless", 1), [(2, 1, "says", "w", 32), (2, 1, "says", "w", 0), (2, 1, "says", "w", 0)])

    def test_ifs_and_statements_that_do_nothing_count(self):
        self.of_body(["say w 1"] * 95 + ["if 1 = 2", "else", "if 1 = 1", "take t 0", "end", "end", "give t 1",
                                         "let a 1"], ("done",), head=["tool t 1"])
        self.of_body(["say w 1"] * 95 + ["if 1 = 2", "else", "if 1 = 1", "take t 0", "end", "end", "give t 1",
                                         "let a 1", "let a 1"], ("endless", 1), head=["tool t 1"])

    def test_each_going_on_counts_by_itself(self):
        self.of_body(["let n 0", "while n < 9"] + ["say w n"] * 40 + ["let n n+1", "wait 0", "end"], ("done",))
        self.of_body(["take t 1"] + ["say w 1"] * 60 + ["start g", "wait 0"] + ["say w 1"] * 40, ("done",),
                     head=["tool t 1", "hand g"] + ["take t 1", "wait 0"] + ["end"])

    def test_the_view_tells_the_row_begun_last(self):
        for yard in self.yards(["hand h"] + ["say w 1"] * 101 + ["end"], [start(0, "h")]):
            self.assertEqual(run_until(yard, 5), ("endless", 1))
            self.assertEqual(yard.view(), (0, [(1, "h", 101, [])], [], [], [], []))
        for yard in self.yards(["hand h", "while 1 = 1", "let n 1", "end", "end"], [start(0, "h")]):
            self.assertEqual(run_until(yard, 5), ("endless", 1))
            self.assertEqual(yard.view(), (0, [(1, "h", 3, [("n", 1)])], [], [], [], []))


class Many(Case):
    def test_from_without(self):
        self.ends(["hand h", "wait 9", "end"], [start(k, "h") for k in range(60)], ("done",))
        self.ends(["hand h", "wait 500", "end"], [start(k, "h") for k in range(61)], ("many",),
                  [(59, 60, "waits", 500)])
        self.ends(["hand h", "end"], [start(k, "h") for k in range(61)], ("many",), [(59, 60, "ends")])

    def test_by_a_start(self):
        rows = ["hand h n", "if n < {}", "start h n+1", "wait 1", "end", "end"]
        self.ends([row.format(60) for row in rows], [start(0, "h", 1)], ("done",))
        self.ends([row.format(61) for row in rows], [start(0, "h", 1)], ("many",), [(0, 59, "waits", 1)])

    def test_of_the_stopped_start_nothing_is_done(self):
        rows = ["hand h", "start g", "say w 1", "end", "hand g", "wait 9", "end"]
        for yard in self.yards(rows, [start(0, "g")] * 59 + [start(1, "h")]):
            self.assertEqual(run_until(yard, 1), ("many",))
            self.assertEqual(yard.log()[-1], (1, 60, "begins", "h"))
            self.assertEqual(yard.view()[1][-1], (60, "h", 2, []))
            self.assertEqual(len(yard.view()[5]), 59)

    def test_the_next_moment_is_told_till_then(self):
        for yard in self.yards(["hand h", "end"], [start(k, "h") for k in range(61)]):
            self.assertEqual(run_until(yard, 59), ("until",))
            self.assertEqual((yard.next_moment(), yard.end()), (60, None))
            yard.step()
            self.assertEqual((yard.next_moment(), yard.end()), (None, ("many",)))


class Long(Case):
    def test_a_500th_and_a_501st_happening(self):
        # The start is one happening, each going on one more.
        rows = ["hand h", "let n 0", "while n < {}", "let n n+1", "wait 0", "end", "end"]
        self.ends([row.format(498) for row in rows], [start(3, "h")], ("done",))
        self.ends([row.format(499) for row in rows], [start(3, "h")], ("long",), [(3, 1, "waits", 0)])

    def test_of_the_one_that_would_be_next_nothing_is_done(self):
        for yard in self.yards(["hand h", "while 1 = 1", "wait 0", "end", "end"], [start(0, "h")]):
            for step in range(500):
                self.assertEqual((yard.next_moment(), yard.end()), (0, None))
                yard.step()
            view, log = yard.view(), yard.log()
            self.assertEqual((yard.next_moment(), yard.end()), (0, None))
            yard.step()
            self.assertEqual((yard.next_moment(), yard.end()), (None, ("long",)))
            self.assertEqual((yard.view(), yard.log()), (view, log))
            self.assertEqual(view[5], [(0, 1)])

    def test_those_from_without_count(self):
        outer = [bring(3, "s", 1)] * 90 + [start(3, "h")]
        rows = ["store s 0 9", "hand h", "let n 0", "while n < {}", "let n n+1", "wait 0", "end", "end"]
        self.ends([row.format(408) for row in rows], outer, ("done",))
        self.ends([row.format(409) for row in rows], outer, ("long",))

    def test_each_moment_by_itself(self):
        self.ends(["hand h", "let n 0", "while n < 900", "let n n+1", "wait 1", "end", "end"], [start(0, "h")],
                  ("done",))
        self.ends(["hand h", "let n 0", "while n < 400", "let n n+1", "wait 0", "end", "wait 1", "let n 0",
                   "while n < 400", "let n n+1", "wait 0", "end", "end"], [start(0, "h")], ("done",))

    def test_ahead_of_a_61st_hand(self):
        rows = ["hand h n", "while 0 < n", "let n n-1", "wait 0", "end", "end"]
        first = [start(0, "h", 379)] + [start(0, "h", 0)] * 59
        self.ends(rows, first, ("done",))
        # The 60 starts and 60 goings on leave 380 happenings; a start from without comes ahead of all of them.
        self.ends(rows, first + [start(0, "h", 0)], ("many",), [(0, 60, "begins", "h")])
        rows = ["hand h n", "while 0 < n", "let n n-1", "wait 0", "end", "start h 0", "end", "hand g", "wait 99", "end"]
        outer = [start(0, "g")] * 59 + [start(0, "h", 380)]
        self.ends(rows, outer, ("many",))
        self.ends(rows, outer[:-1] + [start(0, "h", 381)], ("long",))


class Unknown(Case):
    def test_each_statement(self):
        head = ["tool t 2", "store s 3 9", "row r 1"]
        for row in ["wait x", "take t x", "give t x", "put s x", "get s x", "let v x", "let x x", "say w x",
                    "start h x", "start h 1+x"]:
            self.ends([*head, "hand h a", "take t 1", row, "say w 1", "end"], [start(2, "h", 0)], ("unknown", 1, "x"),
                      [(2, 1, "begins", "h"), (2, 1, "takes", "t", 1)])
        for row in ["if x < 1", "if 1 < x", "while x = 1", "while 1 = x"]:
            self.ends([*head, "hand h a", "take t 1", row, "end", "end"], [start(2, "h", 0)], ("unknown", 1, "x"),
                      [(2, 1, "begins", "h"), (2, 1, "takes", "t", 1)])

    def test_the_hand_and_the_first_name(self):
        self.ends(["hand h a", "if a = 2", "start g y x", "end", "wait 1", "end", "hand g a b", "end"],
                  [start(0, "h", 1), start(0, "h", 2)], ("unknown", 2, "y"), [(0, 1, "waits", 1)])
        self.of_body(["if y < x", "end"], ("unknown", 1, "y"))

    def test_names_of_tools_and_words_have_no_value(self):
        self.of_body(["take t 1", "wait t"], ("unknown", 1, "t"), head=["tool t 1"])
        self.of_body(["say w 1", "wait w"], ("unknown", 1, "w"))

    def test_a_value_given_in_a_body_not_gone_into(self):
        self.of_body(["if 1 = 2", "let x 1", "end", "say w x"], ("unknown", 1, "x"))
        self.of_body(["if 1 = 1", "let x 1", "end", "say w x"], ("done",))

    def test_the_view(self):
        for yard in self.yards(["tool t 2", "hand h", "take t 1", "wait 1", "let a 5", "if a < x", "end", "end"],
                               [start(0, "h"), start(0, "h")]):
            self.assertEqual(run_until(yard, 9), ("unknown", 1, "x"))
            self.assertEqual(yard.view(), (1, [(1, "h", 6, [("a", 5)]), (2, "h", 4, [])], [(0, [(1, 1), (2, 1)], [])],
                                           [], [], [(1, 2)]))


class Big(Case):
    def test_either_way(self):
        self.of_body(["let a 999999+1", "say w a", "let a 0-a", "say w a"], ("done",),
                     [(2, 1, "says", "w", 1000000), (2, 1, "says", "w", -1000000), (2, 1, "ends")])
        self.of_body(["let a 999999+1", "say w 1", "wait a+1"], ("big", 1), [(2, 1, "says", "w", 1)])
        self.of_body(["let a 0-999999", "say w 1", "if 1 < a-2", "end"], ("big", 1), [(2, 1, "says", "w", 1)])
        self.of_body(["say w 1", "say w 1000*1001"], ("big", 1), [(2, 1, "says", "w", 1)])

    def test_which_is_first(self):
        self.of_body(["start g x 999999*9"], ("unknown", 1, "x"), head=["hand g a b", "end"])
        self.of_body(["start g 999999*9 x"], ("big", 1), head=["hand g a b", "end"])
        self.of_body(["if 999999*9 < x", "end"], ("big", 1))
        self.of_body(["if x < 999999*9", "end"], ("unknown", 1, "x"))

    def test_a_moment_may_be_bigger(self):
        for yard in self.yards(["hand h", "wait 999999", "wait 999999", "say w now", "say w now-1", "end"],
                               [start(2, "h")]):
            self.assertEqual(run_until(yard, 2000000), ("big", 1))
            self.assertEqual(yard.log()[-1], (2000000, 1, "says", "w", 2000000))


class First(Case):
    def test_expressions_ahead_of_many(self):
        rows = ["hand h a", "start h {}", "end"]
        outer = [start(0, "h", 1)] * 60
        self.ends([row.format("x") for row in rows], outer, ("unknown", 1, "x"))
        self.ends([row.format("999999*9") for row in rows], outer, ("big", 1))
        self.ends([row.format("1") for row in rows], outer, ("many",))

    def test_endless_ahead_of_expressions_and_many(self):
        self.of_body(["say w 1"] * 100 + ["wait x"], ("endless", 1))
        self.of_body(["say w 1"] * 99 + ["wait x"], ("unknown", 1, "x"))
        self.ends(["hand h"] + ["say w 1"] * 100 + ["start h", "end"], [start(0, "h")] * 60, ("endless", 1))

    def test_the_first_hand_that_stops(self):
        self.ends(["hand h a", "wait a", "wait x", "end", "hand g a", "wait a", "wait 999*9999", "end"],
                  [start(0, "h", 5), start(0, "g", 4)], ("big", 2))
        self.ends(["hand h a", "wait a", "wait x", "end", "hand g a", "wait a", "wait 999*9999", "end"],
                  [start(0, "h", 4), start(0, "g", 4)], ("unknown", 1, "x"))


class Until(Case):
    ROWS = ["hand h", "while 0 < 1", "wait 3", "end", "end"]

    def test_done(self):
        self.ends(["hand h", "end"], [], ("done",), [])
        self.ends(["hand h", "end"], [start(4, "h")], ("done",), [(4, 1, "begins", "h"), (4, 1, "ends")], until=4)
        self.ends(["tool t 1", "hand h", "take t 2", "end"], [start(4, "h")], ("done",))

    def test_until(self):
        self.ends(["hand h", "end"], [start(4, "h")], ("until",), [], until=3)
        self.ends(["hand h", "end"], [start(0, "h")], ("until",), [], until=-1)
        self.ends(self.ROWS, [start(0, "h")], ("until",),
                  [(0, 1, "begins", "h"), (0, 1, "waits", 3), (3, 1, "waits", 3)], until=5)
        self.ends(self.ROWS, [start(0, "h")], ("until",), [(6, 1, "waits", 3)], until=6)

    def test_it_goes_on_from_where_it_is(self):
        for yard in self.yards(self.ROWS, [start(0, "h"), start(20, "h")]):
            self.assertEqual(run_until(yard, 4), ("until",))
            self.assertEqual((yard.moment(), yard.next_moment(), yard.end()), (3, 6, None))
            self.assertEqual(run_until(yard, 2), ("until",))
            self.assertEqual(run_until(yard, 9), ("until",))
            self.assertEqual([row[0] for row in yard.log()], [0, 0, 3, 6, 9])

    def test_stops_that_lie_behind(self):
        self.ends(["hand h", "wait 5", "wait x", "end"], [start(0, "h")], ("until",), until=4)
        self.ends(["hand h", "wait 5", "wait x", "end"], [start(0, "h")], ("unknown", 1, "x"), until=5)


if __name__ == "__main__":
    unittest.main()
