"""Promises [3] and [20]: the run by code is the run by statements, whichever agenda is used."""

import copy
import random
import unittest

from helper import KINDS, Model, bring, drawn_outer, drawn_program, program, start
from rerunyard.coder import code_of
from rerunyard.machine import CodeYard
from rerunyard.plain import PlainYard
from rerunyard.reader import read
from rerunyard.yards import Yard

BY_HAND = [
    (["hand h", "end"], [start(0, "h"), start(0, "h"), start(7, "h")]),
    (["tool fork 2", "tool cup 1", "hand h n", "while 0 < n", "take fork 1", "wait n", "take cup 1", "wait 1",
      "give fork 1", "give cup 1", "let n n-1", "end", "end"],
     [start(0, "h", 3), start(0, "h", 4), start(1, "h", 2), start(1, "h", 5)]),
    (["store s 2 5", "row r 3 1 2", "hand p", "while 0 = 0", "draw n r", "put s n", "wait 2", "end", "end", "hand g",
      "while 0 = 0", "draw n r", "get s n", "wait 1", "end", "end"],
     [start(0, "p"), start(0, "g"), start(2, "g"), bring(5, "s", 9), bring(9, "s", 1), start(9, "p")]),
    (["hand h a b", "if a < b", "if a = 1", "say w 1", "else", "say w 2", "end", "else", "while b < a", "let b b+1",
      "if b = 3", "wait 1", "else", "if b = 4", "stop", "end", "end", "end", "say w b", "end", "end"],
     [start(k, "h", a, b) for k, (a, b) in enumerate([(1, 2), (2, 3), (3, 1), (9, 1), (2, 2), (5, 3)])]),
    (["hand h n", "while 0 < 1", "start h n+1", "wait n", "end", "end"], [start(0, "h", 1)]),
    (["hand h", "while 0 < 1", "wait 0", "end", "end"], [start(2, "h")]),
    (["hand h", "while 0 < 1", "let a now*own", "end", "end"], [start(2, "h")]),
    (["hand h a", "wait a", "say w (a-(now+own)*2)*(a+1)-a*a", "say w b", "end"], [start(0, "h", 4), start(0, "h", 2)]),
    (["hand h a", "wait a", "let a a*a", "let a a*a", "let a a*a", "end"], [start(0, "h", -9), start(0, "h", 4)]),
]


class Code(unittest.TestCase):
    def same(self, one, outer, steps=400, until=80):
        """Behind each step all kinds of run tell the same, and what the model tells."""
        model, yards = Model(one, outer), [kind(one, outer, agenda()) for kind, agenda in KINDS]
        for step in range(steps):
            if model.next_moment() is None or model.next_moment() > until:
                break
            model.step()
            for yard in yards:
                yard.step()
                self.assertEqual(yard.view(), model.view())
                self.assertEqual((yard.end(), yard.next_moment()), (model.end, model.next_moment()))
                self.assertEqual((yard.moment(), len(yard.log())), (model.now, len(model.log)))
        for yard in yards:
            self.assertEqual(yard.log(), model.log)

    def test_by_hand(self):
        for rows, outer in BY_HAND:
            self.same(program(*rows), outer, 700)

    def test_drawn(self):
        for seed in range(1200):
            chance = random.Random(seed)
            one = drawn_program(chance)
            with self.subTest(seed):
                self.same(one, drawn_outer(chance, one))

    def test_drawn_with_much_from_without(self):
        for seed in range(60):
            chance = random.Random(seed)
            one = drawn_program(chance)
            with self.subTest(seed):
                self.same(one, sorted(drawn_outer(chance, one, 30) * 8, key=lambda thing: thing[0]))

    def test_deep_bodies(self):
        rows = ["hand h n"]
        for name in "abcde":
            rows += [f"let {name} 0", f"while {name} < 2", f"let {name} {name}+1"]
        rows += ["wait n", "say w a*16+b*8+c*4+d*2+e"] + ["end"] * 6
        self.same(program(*rows), [start(0, "h", 1), start(0, "h", 0)])

    def test_the_same_programs_code_is_the_same_and_stays(self):
        for rows, outer in BY_HAND:
            one = program(*rows)
            kept, told = copy.deepcopy(one), code_of(one)
            self.assertEqual(told, code_of(one))
            self.assertEqual(told, code_of(program(*rows)))
            self.assertEqual(one, kept)
            meant = copy.deepcopy(told)
            for hand in one[3]:
                hand[2].clear()
            self.assertEqual(told, meant)
        for seed in range(30):
            one = drawn_program(random.Random(seed))
            self.assertEqual(code_of(one), code_of(copy.deepcopy(one)))

    def test_code_is_of_plain_things_alone(self):
        def plain(thing):
            self.assertIn(type(thing), (tuple, int, str))
            for part in thing if isinstance(thing, tuple) else ():
                plain(part)
        for rows, outer in BY_HAND:
            plain(code_of(program(*rows)))

    def test_programs_without_hands(self):
        self.same(read("store s 0 4"), [bring(0, "s", 3), bring(2, "s", 3)])

    def test_both_runs_have_one_base(self):
        self.assertEqual((PlainYard.__bases__, CodeYard.__bases__), ((Yard,), (Yard,)))


if __name__ == "__main__":
    unittest.main()
