"""Promises [13] to [15] and [17]: happenings, statements and the log, by statements and by code, with either agenda."""

import unittest

from helper import KINDS, bring, program, start, went


class Case(unittest.TestCase):
    def logs(self, rows, outer, meant):
        """Rows of log without those of begins and ends, for brevity, where none are meant."""
        for kind, agenda in KINDS:
            with self.subTest(kind=kind.__name__, agenda=agenda.__name__):
                log = went(kind(program(*rows), outer, agenda())).log()
                if not any(row[2] in ("begins", "ends") for row in meant):
                    log = [row for row in log if row[2] not in ("begins", "ends")]
                self.assertEqual(log, meant)

    def of_body(self, body, meant, head=()):
        """What one hand with the number 1, started at 0, lays down."""
        self.logs([*head, "hand h", *body, "end"], [start(0, "h")], meant)


class Happenings(Case):
    def test_from_without_and_the_agenda_at_one_moment(self):
        self.logs(["store s 0 9", "hand h", "wait 3", "say w now", "end"],
                  [start(0, "h"), bring(3, "s", 1), bring(3, "s", 2), bring(4, "s", 3)],
                  [(0, 1, "begins", "h"), (0, 1, "waits", 3), (3, 0, "brings", "s", 1), (3, 0, "brings", "s", 2),
                   (3, 1, "says", "w", 3), (3, 1, "ends"), (4, 0, "brings", "s", 3)])

    def test_what_the_agenda_does_goes_on_till_something_comes(self):
        self.logs(["hand h", "wait 1", "wait 0", "end"], [start(0, "h"), start(1, "h"), start(2, "h")],
                  [(0, 1, "begins", "h"), (0, 1, "waits", 1), (1, 2, "begins", "h"), (1, 1, "waits", 0),
                   (1, 2, "waits", 1), (1, 1, "ends"), (2, 3, "begins", "h"), (2, 2, "waits", 0), (2, 3, "waits", 1),
                   (2, 2, "ends"), (3, 3, "waits", 0), (3, 3, "ends")])

    def test_starts_are_numbered_in_the_order_of_all_starts(self):
        self.logs(["hand h", "say a own", "start g", "wait 1", "say b own", "start g", "end", "hand g", "say c own",
                   "end"], [start(0, "h"), start(0, "h"), start(1, "g")],
                  [(0, 1, "begins", "h"), (0, 2, "begins", "h"), (0, 1, "says", "a", 1), (0, 3, "begins", "g"),
                   (0, 1, "waits", 1), (0, 2, "says", "a", 2), (0, 4, "begins", "g"), (0, 2, "waits", 1),
                   (0, 3, "says", "c", 3), (0, 3, "ends"), (0, 4, "says", "c", 4), (0, 4, "ends"),
                   (1, 5, "begins", "g"), (1, 1, "says", "b", 1), (1, 6, "begins", "g"), (1, 1, "ends"),
                   (1, 2, "says", "b", 2), (1, 7, "begins", "g"), (1, 2, "ends"), (1, 5, "says", "c", 5),
                   (1, 5, "ends"), (1, 6, "says", "c", 6), (1, 6, "ends"), (1, 7, "says", "c", 7), (1, 7, "ends")])

    def test_numbers_that_come_with_a_start(self):
        self.logs(["hand h a b c", "say w a", "say w b", "say w c", "end"],
                  [start(5, "h", -1000000, 0, 1000000)],
                  [(5, 1, "says", "w", -1000000), (5, 1, "says", "w", 0), (5, 1, "says", "w", 1000000)])

    def test_a_hand_without_statements(self):
        self.logs(["hand h", "end"], [start(0, "h")], [(0, 1, "begins", "h"), (0, 1, "ends")])

    def test_nothing_comes(self):
        self.logs(["hand h", "end"], [], [])

    def test_a_hand_served_behind_one_that_was_on_the_agenda(self):
        self.logs(["tool t 1", "hand a", "take t 1", "wait 2", "give t 1", "say w 0", "end",
                   "hand b", "take t 1", "say w 1", "end", "hand c", "wait 2", "say w 2", "end"],
                  [start(0, "a"), start(0, "b"), start(0, "c")],
                  [(0, 1, "takes", "t", 1), (0, 1, "waits", 2), (0, 2, "queues", "take", "t", 1), (0, 3, "waits", 2),
                   (2, 1, "gives", "t", 1), (2, 2, "takes", "t", 1), (2, 1, "says", "w", 0), (2, 3, "says", "w", 2),
                   (2, 2, "says", "w", 1), (2, 2, "gives", "t", 1)])


class Statements(Case):
    def test_wait(self):
        self.of_body(["wait 2", "say w now", "wait 0", "say w now", "wait 0-5", "say w now", "wait 1", "say w now"],
                     [(0, 1, "waits", 2), (2, 1, "says", "w", 2), (2, 1, "waits", 0), (2, 1, "says", "w", 2),
                      (2, 1, "waits", 0), (2, 1, "says", "w", 2), (2, 1, "waits", 1), (3, 1, "says", "w", 3)])

    def test_a_wait_of_0_lets_others_go_ahead(self):
        self.logs(["hand h", "wait 0", "say w own", "end"], [start(0, "h"), start(0, "h")],
                  [(0, 1, "waits", 0), (0, 2, "waits", 0), (0, 1, "says", "w", 1), (0, 2, "says", "w", 2)])

    def test_take_and_give_at_once(self):
        self.of_body(["take t 1", "take t 2", "give t 1", "give t 9", "give t 1", "say w 1"],
                     [(0, 1, "takes", "t", 1), (0, 1, "takes", "t", 2), (0, 1, "gives", "t", 1),
                      (0, 1, "gives", "t", 2), (0, 1, "says", "w", 1)], head=["tool t 3"])

    def test_worths_of_0_and_below_do_nothing(self):
        for word in ("take t", "give t", "put s", "get s"):
            for e in ("0", "0-1", "0-7"):
                self.of_body(["take t 1", f"{word} {e}", "say w 1", "give t 1"],
                             [(0, 1, "takes", "t", 1), (0, 1, "says", "w", 1), (0, 1, "gives", "t", 1)],
                             head=["tool t 1", "store s 0 1"])

    def test_a_take_of_0_does_nothing_where_others_wait_too(self):
        self.logs(["tool t 1", "hand a", "take t 2", "end", "hand b", "take t 0", "say w 1", "end"],
                  [start(0, "a"), start(0, "b")],
                  [(0, 1, "queues", "take", "t", 2), (0, 2, "says", "w", 1)])

    def test_put_and_get_at_once(self):
        self.of_body(["put s 2", "get s 3", "put s 4", "get s 4", "say w 1"],
                     [(0, 1, "puts", "s", 2), (0, 1, "gets", "s", 3), (0, 1, "puts", "s", 4), (0, 1, "gets", "s", 4),
                      (0, 1, "says", "w", 1)], head=["store s 1 4"])

    def test_put_and_get_not_at_once(self):
        self.of_body(["put s 4", "say w 1"], [(0, 1, "queues", "put", "s", 4)], head=["store s 1 4"])
        self.of_body(["get s 2", "say w 1"], [(0, 1, "queues", "get", "s", 2)], head=["store s 1 4"])
        self.of_body(["take t 2", "say w 1"], [(0, 1, "queues", "take", "t", 2)], head=["tool t 1"])

    def test_hands_served_go_on_in_the_order_served(self):
        self.logs(["tool t 2", "hand a", "take t 2", "wait 1", "give t 2", "say w 0", "end",
                   "hand b n", "take t n", "say w own", "wait 9", "end"],
                  [start(0, "a"), start(0, "b", 1), start(0, "b", 1), start(0, "b", 1)],
                  [(0, 1, "takes", "t", 2), (0, 1, "waits", 1), (0, 2, "queues", "take", "t", 1),
                   (0, 3, "queues", "take", "t", 1), (0, 4, "queues", "take", "t", 1), (1, 1, "gives", "t", 2),
                   (1, 2, "takes", "t", 1), (1, 3, "takes", "t", 1), (1, 1, "says", "w", 0), (1, 2, "says", "w", 2),
                   (1, 2, "waits", 9), (1, 3, "says", "w", 3), (1, 3, "waits", 9), (10, 2, "gives", "t", 1),
                   (10, 4, "takes", "t", 1), (10, 3, "gives", "t", 1), (10, 4, "says", "w", 4), (10, 4, "waits", 9),
                   (19, 4, "gives", "t", 1)])

    def test_a_store_serves_by_turns(self):
        self.logs(["store s 0 4", "hand g n", "get s n", "say w own", "end", "hand p n", "put s n", "say w own", "end"],
                  [start(0, "g", 3), start(0, "g", 2), start(1, "p", 2), start(1, "p", 4), start(2, "p", 1),
                   bring(3, "s", 9)],
                  [(0, 1, "queues", "get", "s", 3), (0, 2, "queues", "get", "s", 2), (1, 3, "puts", "s", 2),
                   (1, 3, "says", "w", 3), (1, 4, "queues", "put", "s", 4), (2, 5, "queues", "put", "s", 1),
                   (3, 0, "brings", "s", 2), (3, 1, "gets", "s", 3), (3, 1, "says", "w", 1)])

    def test_a_put_that_serves_getters_and_putters(self):
        self.logs(["store s 1 4", "hand g n", "get s n", "say w own", "end", "hand p n", "put s n", "say w own", "end"],
                  [start(0, "p", 4), start(0, "g", 3), bring(1, "s", 2)],
                  [(0, 1, "queues", "put", "s", 4), (0, 2, "queues", "get", "s", 3), (1, 0, "brings", "s", 2),
                   (1, 2, "gets", "s", 3), (1, 1, "puts", "s", 4), (1, 2, "says", "w", 2), (1, 1, "says", "w", 1)])
        self.logs(["store s 1 4", "hand g n", "get s n", "say w own", "end", "hand p n", "put s n", "say w own", "end"],
                  [start(0, "p", 4), start(0, "g", 1)],
                  [(0, 1, "queues", "put", "s", 4), (0, 2, "gets", "s", 1), (0, 1, "puts", "s", 4),
                   (0, 2, "says", "w", 2), (0, 1, "says", "w", 1)])

    def test_let(self):
        self.logs(["hand h a", "let b a+1", "let a b*b", "say w a", "let a a-1", "say w a", "say w b", "end"],
                  [start(0, "h", 2)], [(0, 1, "says", "w", 9), (0, 1, "says", "w", 8), (0, 1, "says", "w", 3)])

    def test_values_are_each_hands_own(self):
        self.logs(["hand h a", "let a a+1", "wait 1", "say w a", "end"], [start(0, "h", 1), start(0, "h", 5)],
                  [(0, 1, "waits", 1), (0, 2, "waits", 1), (1, 1, "says", "w", 2), (1, 2, "says", "w", 6)])

    def test_draws_go_round_and_round_for_all_hands(self):
        self.logs(["row r 7 0 9", "row q 1", "hand h", "draw v r", "say w v", "draw v r", "say w v", "draw v q",
                   "say x v", "end"], [start(0, "h"), start(0, "h")],
                  [(0, 1, "says", "w", 7), (0, 1, "says", "w", 0), (0, 1, "says", "x", 1), (0, 2, "says", "w", 9),
                   (0, 2, "says", "w", 7), (0, 2, "says", "x", 1)])

    def test_say(self):
        self.of_body(["wait 4", "say ends 0-3", "say begins own", "say w now"],
                     [(0, 1, "begins", "h"), (0, 1, "waits", 4), (4, 1, "says", "ends", -3),
                      (4, 1, "says", "begins", 1), (4, 1, "says", "w", 4), (4, 1, "ends")])

    def test_start(self):
        self.logs(["hand h", "let x 5", "start g x x*2", "let x 6", "say w x", "end", "hand g b a", "say u a",
                   "say u b", "end"], [start(0, "h")],
                  [(0, 1, "begins", "h"), (0, 2, "begins", "g"), (0, 1, "says", "w", 6), (0, 1, "ends"),
                   (0, 2, "says", "u", 10), (0, 2, "says", "u", 5), (0, 2, "ends")])

    def test_a_hand_starts_its_own_kind(self):
        self.logs(["hand h n", "if 0 < n", "start h n-1", "end", "end"], [start(3, "h", 2)],
                  [(3, 1, "begins", "h"), (3, 2, "begins", "h"), (3, 1, "ends"), (3, 3, "begins", "h"), (3, 2, "ends"),
                   (3, 3, "ends")])

    def test_if_with_and_without_else(self):
        for sign, left, right, holds in [("<", 1, 2, True), ("<", 2, 2, False), ("<", 3, 2, False),
                                         ("=", 2, 2, True), ("=", 1, 2, False), ("=", 3, 2, False)]:
            self.of_body([f"if {left} {sign} {right}", "say a 1", "say a 2", "else", "say b 1", "say b 2", "end",
                          "say c 3"],
                         [(0, 1, "says", "a" if holds else "b", 1), (0, 1, "says", "a" if holds else "b", 2),
                          (0, 1, "says", "c", 3)])
            self.of_body([f"if {left} {sign} {right}", "say a 1", "end", "say c 3"],
                         [(0, 1, "says", "a", 1)] * holds + [(0, 1, "says", "c", 3)])

    def test_empty_bodies(self):
        self.of_body(["if 1 < 2", "end", "if 2 < 1", "end", "if 1 < 2", "else", "end", "if 1 = 2", "say a 1", "else",
                      "end", "while 1 < 0", "end", "say w 1"], [(0, 1, "says", "w", 1)])

    def test_while_is_begun_anew(self):
        self.of_body(["let n 0", "while n < 3", "say w n", "wait n", "let n n+1", "end", "say x n"],
                     [(0, 1, "says", "w", 0), (0, 1, "waits", 0), (0, 1, "says", "w", 1), (0, 1, "waits", 1),
                      (1, 1, "says", "w", 2), (1, 1, "waits", 2), (3, 1, "says", "x", 3)])
        self.of_body(["let n 5", "while n = 5", "let n 6", "end", "while n < 6", "say a 1", "end", "say x n"],
                     [(0, 1, "says", "x", 6)])

    def test_rests_in_bodies_within_one_another(self):
        self.of_body(["let i 0", "while i < 2", "let i i+1", "if i = 1", "while 0 < 1", "wait 1", "say a now",
                      "if 1 < now", "if 1 = 1", "wait 2", "let i 2", "stop", "end", "end", "end", "else", "say b 0",
                      "end", "end", "say c 0"],
                     [(0, 1, "waits", 1), (1, 1, "says", "a", 1), (1, 1, "waits", 1), (2, 1, "says", "a", 2),
                      (2, 1, "waits", 2)])
        self.of_body(["let i 0", "while i < 2", "let i i+1", "if i = 1", "wait 1", "else", "wait 2", "say b i", "end",
                      "say c i", "end", "say d i"],
                     [(0, 1, "waits", 1), (1, 1, "says", "c", 1), (1, 1, "waits", 2), (3, 1, "says", "b", 2),
                      (3, 1, "says", "c", 2), (3, 1, "says", "d", 2)])

    def test_a_hand_that_rests_at_the_end_of_its_body(self):
        self.of_body(["if 1 = 1", "wait 3", "end"],
                     [(0, 1, "begins", "h"), (0, 1, "waits", 3), (3, 1, "ends")])

    def test_stop_and_the_bodys_end_with_what_the_hand_has(self):
        for last in (["stop", "say w 1"], ["if 1 = 1", "stop", "end", "say w 1"], []):
            self.logs(["tool a 2", "tool b 2", "tool c 1", "hand h", "take c 1", "take a 2", "take b 1", "give b 1",
                       "wait 1"] + last + ["end", "hand g", "take c 1", "wait 0", "end", "hand f", "take a 1", "end"],
                      [start(0, "h"), start(0, "g"), start(0, "f"), start(0, "f")],
                      [(0, 1, "begins", "h"), (0, 2, "begins", "g"), (0, 3, "begins", "f"), (0, 4, "begins", "f"),
                       (0, 1, "takes", "c", 1), (0, 1, "takes", "a", 2), (0, 1, "takes", "b", 1),
                       (0, 1, "gives", "b", 1), (0, 1, "waits", 1), (0, 2, "queues", "take", "c", 1),
                       (0, 3, "queues", "take", "a", 1), (0, 4, "queues", "take", "a", 1),
                       (1, 1, "ends"), (1, 1, "gives", "a", 2), (1, 3, "takes", "a", 1), (1, 4, "takes", "a", 1),
                       (1, 1, "gives", "c", 1), (1, 2, "takes", "c", 1), (1, 3, "ends"), (1, 3, "gives", "a", 1),
                       (1, 4, "ends"), (1, 4, "gives", "a", 1), (1, 2, "waits", 0), (1, 2, "ends"),
                       (1, 2, "gives", "c", 1)])

    def test_names_of_other_kinds_may_be_alike(self):
        self.logs(["tool a 1", "store b 0 5", "row a 3", "hand a b", "take a 1", "draw a a", "put b a", "let b b+a",
                   "say b b", "start b", "end", "hand b", "say a 0", "end"], [start(0, "a", 4)],
                  [(0, 1, "takes", "a", 1), (0, 1, "puts", "b", 3), (0, 1, "says", "b", 7), (0, 1, "gives", "a", 1),
                   (0, 2, "says", "a", 0)])


if __name__ == "__main__":
    unittest.main()
