"""Promises [2] and [9]: the faults of a program."""

import copy
import unittest

from rerunyard.looker import faults, sound
from rerunyard.reader import read

HEAD = ["tool saw 1", "store bin 0 5", "row r 1 2"]


def program(*rows):
    return read("\n".join(HEAD + list(rows)))


def of_body(*rows):
    return program("hand h", *rows, "end", "hand g a b", "end")


class Faults(unittest.TestCase):
    def faulty(self, told, *meant):
        self.assertEqual(faults(told), list(meant))
        self.assertIs(sound(told), not meant)

    def test_each_kind_with_its_row_and_name(self):
        self.faulty(of_body("take axe 1"), ("tool", 5, "axe"))
        self.faulty(of_body("give axe 1"), ("tool", 5, "axe"))
        self.faulty(of_body("put box 1"), ("store", 5, "box"))
        self.faulty(of_body("get box 1"), ("store", 5, "box"))
        self.faulty(of_body("draw v q"), ("row", 5, "q"))
        self.faulty(of_body("start k"), ("hand", 5, "k"))
        self.faulty(of_body("start g 1"), ("numbers", 5, "g"))

    def test_names_that_are_there(self):
        self.faulty(of_body("take saw 1", "give saw 1", "put bin 1", "get bin 1", "draw v r", "start h",
                            "start g 1 2", "wait 1", "let q q", "say axe 1", "stop"))

    def test_too_many_and_too_few_expressions(self):
        self.faulty(of_body("start g"), ("numbers", 5, "g"))
        self.faulty(of_body("start g 1 2 3"), ("numbers", 5, "g"))
        self.faulty(of_body("start h 1"), ("numbers", 5, "h"))
        self.faulty(of_body("start k 1"), ("hand", 5, "k"))

    def test_a_name_of_another_kind(self):
        self.faulty(of_body("take bin 1", "give r 1", "put saw 1", "get h 1", "draw v saw", "start saw", "take g 1"),
                    ("tool", 5, "bin"), ("tool", 6, "r"), ("store", 7, "saw"), ("store", 8, "h"), ("row", 9, "saw"),
                    ("hand", 10, "saw"), ("tool", 11, "g"))

    def test_the_drawn_names_value_is_none_of_a_row(self):
        self.faulty(of_body("draw r r", "draw r v"), ("row", 6, "v"))

    def test_a_start_of_a_hand_further_down_and_of_itself(self):
        self.faulty(program("hand a", "start b 1", "start a", "start c", "end", "hand b x", "start a", "end"),
                    ("hand", 7, "c"))

    def test_in_the_texts_order_in_bodies_within_one_another(self):
        self.faulty(program("hand h", "take a 1", "if 1 < 2", "put b 1", "while 1 = 2", "draw v c", "end", "get d 1",
                            "else", "start e", "if 1 = 1", "give f 1", "end", "take g 1", "end", "take i 1", "end",
                            "hand j", "start h 1", "end"),
                    ("tool", 5, "a"), ("store", 7, "b"), ("row", 9, "c"), ("store", 11, "d"), ("hand", 13, "e"),
                    ("tool", 15, "f"), ("tool", 17, "g"), ("tool", 19, "i"), ("numbers", 22, "h"))

    def test_the_same_fault_at_each_row(self):
        self.faulty(of_body("take a 1", "take a 1"), ("tool", 5, "a"), ("tool", 6, "a"))

    def test_programs_without_hands_or_statements(self):
        self.faulty(program())
        self.faulty(program("hand h", "end"))
        self.faulty(read("tool saw 1"))

    def test_a_told_list_is_the_askers_own(self):
        one = of_body("take a 1", "if 1 < 1", "end")
        kept = copy.deepcopy(one)
        faults(one).append(1)
        self.assertEqual(faults(one), [("tool", 5, "a")])
        faults(one).clear()
        self.assertEqual(faults(one), [("tool", 5, "a")])
        self.assertEqual(one, kept)
        clean = of_body()
        faults(clean).append(1)
        self.assertEqual(faults(clean), [])


if __name__ == "__main__":
    unittest.main()
