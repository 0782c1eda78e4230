"""Promises [2] and [26]: logs as text."""

import random
import unittest

from helper import KINDS, drawn_outer, drawn_program, went_until
from rerunyard.errors import NoLog
from rerunyard.logs import read_log, shown_log

FORMS = [
    ((0, 1, "begins", "saw"), "0 1 begins saw"),
    ((3, 12, "waits", 0), "3 12 waits 0"),
    ((3, 12, "waits", 1000000), "3 12 waits 1000000"),
    ((4, 1, "queues", "take", "saw", 2), "4 1 queues take saw 2"),
    ((4, 1, "queues", "put", "bin", 3), "4 1 queues put bin 3"),
    ((4, 1, "queues", "get", "bin", 4), "4 1 queues get bin 4"),
    ((5, 2, "takes", "saw", 2), "5 2 takes saw 2"),
    ((5, 2, "puts", "bin", 999), "5 2 puts bin 999"),
    ((5, 2, "gets", "bin", 1), "5 2 gets bin 1"),
    ((5, 60, "gives", "saw", 9), "5 60 gives saw 9"),
    ((6, 1, "says", "word", 0), "6 1 says word 0"),
    ((6, 1, "says", "word", -1000000), "6 1 says word -1000000"),
    ((6, 1, "says", "begins", 1000000), "6 1 says begins 1000000"),
    ((7, 1, "ends"), "7 1 ends"),
    ((999999, 0, "brings", "abcdefgh", 0), "999999 0 brings abcdefgh 0"),
]


class Logs(unittest.TestCase):
    def refused(self, *texts):
        for text in texts:
            with self.subTest(text[:60]):
                with self.assertRaises(NoLog) as caught:
                    read_log(text)
                self.assertIs(caught.exception.__class__, NoLog)

    def test_each_form_of_row(self):
        for row, text in FORMS:
            self.assertEqual(shown_log([row]), text)
            told = read_log(text)
            self.assertEqual(told, [row])
            self.assertEqual([type(part) for part in told[0]], [type(part) for part in row])

    def test_rows_are_parted_by_a_line_feed(self):
        log, text = [row for row, text in FORMS], "\n".join(text for row, text in FORMS)
        self.assertEqual(shown_log(log), text)
        self.assertEqual(read_log(text), log)

    def test_a_log_without_rows(self):
        self.assertEqual(shown_log([]), "")
        self.assertEqual(read_log(""), [])
        read_log("").append(1)
        self.assertEqual(read_log(""), [])

    def test_logs_of_runs(self):
        for seed in range(80):
            chance = random.Random(seed)
            one = drawn_program(chance)
            kind, agenda = chance.choice(KINDS)
            log = went_until(kind(one, drawn_outer(chance, one), agenda()), 15).log()
            kept = list(log)
            self.assertEqual(read_log(shown_log(log)), log)
            self.assertEqual(log, kept)

    def test_numbers_below_0_where_they_were_said(self):
        self.assertEqual(read_log("1 2 says w -7"), [(1, 2, "says", "w", -7)])
        self.assertEqual(read_log("1 2 says w -9999999"), [(1, 2, "says", "w", -9999999)])
        self.refused("1 2 says w -0", "1 2 says w -01", "1 2 says w --1", "1 2 says w -", "1 2 says w -12345678",
                     "1 2 says w +1", "1 2 says w 1-", "1 2 says w -a")

    def test_numbers_below_0_elsewhere(self):
        self.refused("-1 2 ends", "1 -2 ends", "1 2 waits -1", "1 2 takes a -1", "1 2 gives a -1", "1 2 puts a -1",
                     "1 2 gets a -1", "1 2 queues take a -1", "1 0 brings a -1", "-0 1 ends", "0 -0 brings a 1")

    def test_noughts_ahead(self):
        self.refused("01 2 ends", "1 02 ends", "1 2 waits 00", "1 2 waits 07", "1 2 says w 007", "1 2 takes a 01",
                     "00 1 ends", "1 00 brings a 1", "1 0 brings a 00")
        self.assertEqual(read_log("0 1 waits 0"), [(0, 1, "waits", 0)])

    def test_seven_figures_and_eight(self):
        self.assertEqual(read_log("1 9999999 waits 9999999"), [(1, 9999999, "waits", 9999999)])
        self.assertEqual(read_log("1 1 takes a 1234567\n1 1 says a 1234567")[1], (1, 1, "says", "a", 1234567))
        self.refused("1 10000000 ends", "1 1 waits 10000000", "1 1 says a 10000000", "1 1 queues get a 10000000",
                     "1 1 takes a 10000000")

    def test_moments_of_999999_and_above(self):
        self.assertEqual(read_log("999999 1 ends"), [(999999, 1, "ends")])
        self.refused("1000000 1 ends", "1000001 1 ends", "9999999 1 ends", "10000000 1 ends")

    def test_moments_that_fall(self):
        self.assertEqual(len(read_log("3 1 ends\n3 2 ends\n9 3 ends")), 3)
        self.refused("3 1 ends\n2 2 ends", "3 1 ends\n3 2 ends\n0 3 ends", "10 1 ends\n9 2 ends",
                     "5 1 ends\n7 1 ends\n6 1 ends")

    def test_hand_0_with_brings_alone(self):
        self.assertEqual(read_log("1 0 brings bin 3"), [(1, 0, "brings", "bin", 3)])
        self.refused("1 1 brings bin 3", "1 10 brings bin 3", "1 0 begins h", "1 0 waits 1", "1 0 queues take a 1",
                     "1 0 takes a 1", "1 0 puts a 1", "1 0 gets a 1", "1 0 gives a 1", "1 0 says a 1", "1 0 ends")

    def test_nothing_else_is_asked(self):
        for text in ["1 1 takes a 0", "1 1 gives a 0", "1 1 queues put a 0", "5 9 ends\n5 9 ends\n5 9 takes a 1",
                     "1 1 gets a 9999999", "1 0 brings a 1000"]:
            self.assertEqual(shown_log(read_log(text)), text)

    def test_words_that_are_no_names(self):
        for word in ["", "A", "a1", "abcdefghi", "tool", "take", "own", "now", "end", "a-b", "-", "1", "a" * 5000]:
            self.refused(f"1 1 begins {word}", f"1 1 takes {word} 1", f"1 1 puts {word} 1", f"1 1 gets {word} 1",
                         f"1 1 gives {word} 1", f"1 1 says {word} 1", f"1 0 brings {word} 1",
                         f"1 1 queues take {word} 1")

    def test_words_of_the_log_are_names(self):
        self.assertEqual(read_log("1 1 begins ends\n1 1 says takes 3\n1 1 takes queues 1")[0], (1, 1, "begins", "ends"))

    def test_other_words(self):
        self.refused("1 1 take a 1", "1 1 sings", "1 1 Ends", "1 1 queues takes a 1", "1 1 queues give a 1",
                     "1 1 queues a 1", "1 1 queues say a 1", "1 1 end", "1 1 ", "1 1 begin a", "1 1 queues  a 1")

    def test_a_word_too_many_or_too_few(self):
        for row, text in FORMS:
            self.refused(text + " 1", text + " a", text.rsplit(" ", 1)[0], "1 " + text, text.split(" ", 1)[1])
        self.refused("1", "1 1", "ends", "1 ends")

    def test_blanks(self):
        for row, text in FORMS:
            self.refused(" " + text, text + " ", text.replace(" ", "  ", 1), text + " \n" + text, " ", "  ")
            self.refused("  ".join(text.rsplit(" ", 1)))

    def test_rows_without_signs(self):
        self.refused("\n", "1 1 ends\n", "\n1 1 ends", "1 1 ends\n\n1 1 ends", "1 1 ends\n\n")

    def test_no_numbers(self):
        self.refused("a 1 ends", "1 a ends", "1 1 waits a", "1.0 1 ends", "1 1 waits 1_0", "1 1 waits +1",
                     "1 1 says a x", "1 1 waits 1e3", "1 1 waits ~", "1 1 takes 1 a", "now 1 ends")

    def test_long_words_of_figures(self):
        for figures in ["1" * 5000, "9" * 20000, "0" * 5000]:
            self.refused(f"{figures} 1 ends", f"1 {figures} ends", f"1 1 waits {figures}", f"1 1 says a {figures}",
                         f"1 1 says a -{figures}", f"1 1 takes a {figures}", f"1 0 brings a {figures}",
                         f"1 {figures} brings a 1", f"1 1 queues get a {figures}", figures)

    def test_the_first_row_that_is_none_or_a_later_one(self):
        self.refused("1 1 ends\n1 1 sings", "1 1 sings\n1 1 ends", "1 1 ends\n1 1 ends 3\n2 1 ends")


if __name__ == "__main__":
    unittest.main()
