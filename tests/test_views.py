"""Promises [2], [18] and [19]: views and kept standings, by statements and by code, with either agenda."""

import copy
import random
import unittest

from helper import KINDS, bring, drawn_outer, drawn_program, program, start, went, went_until
from rerunyard.agendas import HeapAgenda, ListAgenda
from rerunyard.machine import CodeYard
from rerunyard.plain import PlainYard

ROWS = ["tool t 3", "store s 1 4", "tool u 1", "row r 5 6 7", "store v 0 2", "row q 9", "hand h n", "draw z r",
        "take t n", "let a 0-n", "wait 4", "end", "hand g", "get s 2", "end", "hand p", "put v 3", "end"]
OUTER = [start(1, "h", 2), start(1, "h", 1), start(2, "h", 2), start(2, "g"), start(2, "p"), start(2, "g"),
         bring(9, "s", 1)]


def yards(rows=ROWS, outer=OUTER):
    for kind, agenda in KINDS:
        yield kind(program(*rows), copy.deepcopy(outer), agenda())


def standable(yard):
    """Whether a kept standing may be asked for."""
    return yard.end() is None and (yard.next_moment() is None or not yard.log() or yard.next_moment() > yard.moment())


class Views(unittest.TestCase):
    def test_where_nothing_has_happened_yet(self):
        for yard in yards():
            self.assertEqual(yard.view(), (0, [], [(3, [], []), (1, [], [])], [(1, [], []), (0, [], [])], [0, 0], []))
            self.assertEqual(yard.moment(), 0)

    def test_of_a_program_without_anything(self):
        for yard in yards(["hand h", "end"], []):
            self.assertEqual(yard.view(), (0, [], [], [], [], []))

    def test_each_part(self):
        for yard in yards():
            went_until(yard, 2)
            self.assertEqual(yard.view(), (
                2,
                [(1, "h", 11, [("a", -2), ("n", 2), ("z", 5)]), (2, "h", 11, [("a", -1), ("n", 1), ("z", 6)]),
                 (3, "h", 9, [("n", 2), ("z", 7)]), (4, "g", 14, []), (5, "p", 17, []), (6, "g", 14, [])],
                [(0, [(1, 2), (2, 1)], [(3, 2)]), (1, [], [])],
                [(1, [(4, 2), (6, 2)], []), (0, [], [(5, 3)])],
                [0, 0],
                [(5, 1), (5, 2)]))

    def test_a_hand_that_has_not_begun_its_body(self):
        for yard in yards():
            yard.step()
            yard.step()
            self.assertEqual(yard.view()[1], [(1, "h", 0, [("n", 2)]), (2, "h", 0, [("n", 1)])])
            self.assertEqual(yard.view()[5], [(1, 1), (1, 2)])
            yard.step()
            self.assertEqual(yard.view()[1][1], (2, "h", 0, [("n", 1)]))
            self.assertEqual(yard.view()[4:], ([1, 0], [(1, 2), (5, 1)]))

    def test_a_served_hand_stays_at_its_row_till_it_goes_on(self):
        rows = ["tool t 1", "hand h", "take t 1", "wait 2", "give t 1", "wait 5", "end"]
        for yard in yards(rows, [start(0, "h"), start(0, "h")]):
            went_until(yard, 1)
            yard.step()
            self.assertEqual(yard.view(), (2, [(1, "h", 6, []), (2, "h", 3, [])], [(0, [(2, 1)], [])], [], [],
                                           [(2, 2), (7, 1)]))

    def test_the_agenda_in_order(self):
        for yard in yards(["hand h n", "wait n", "end"], [start(0, "h", n) for n in (4, 2, 9, 2, 0)]):
            for step in range(10):
                yard.step()
            self.assertEqual(yard.view()[5], [(0, 5), (2, 2), (2, 4), (4, 1), (9, 3)])

    def test_hands_that_are_no_more_are_not_there(self):
        for yard in yards(["hand h n", "wait n", "end"], [start(0, "h", n) for n in (4, 2, 9)]):
            went_until(yard, 2)
            self.assertEqual([hand[0] for hand in yard.view()[1]], [1, 3])
            self.assertEqual(went(yard).view(), (9, [], [], [], [], []))

    def test_holders_are_rising(self):
        rows = ["tool t 3", "hand h n", "wait n", "take t 1", "wait 9", "end"]
        for yard in yards(rows, [start(0, "h", n) for n in (4, 2, 3)]):
            went_until(yard, 4)
            self.assertEqual(yard.view()[2], [(0, [(1, 1), (2, 1), (3, 1)], [])])

    def test_what_was_given_back_is_not_held(self):
        rows = ["tool t 3", "hand h", "take t 2", "give t 1", "wait 1", "give t 1", "wait 1", "end"]
        for yard in yards(rows, [start(0, "h")]):
            went_until(yard, 0)
            self.assertEqual(yard.view()[2], [(2, [(1, 1)], [])])
            went_until(yard, 1)
            self.assertEqual(yard.view()[2], [(3, [], [])])

    def test_places_less_whole_rounds(self):
        rows = ["row r 5 6 7", "row q 9", "hand h", "draw a r", "draw b q", "wait 1", "draw a r", "wait 1", "draw a r",
                "wait 1", "draw a r", "wait 1", "end"]
        for yard in yards(rows, [start(0, "h")]):
            places = []
            for moment in range(4):
                places.append(went_until(yard, moment).view()[4])
            self.assertEqual(places, [[1, 0], [2, 0], [0, 0], [1, 0]])

    def test_kinds(self):
        for yard in yards():
            view = went_until(yard, 2).view()
            self.assertIs(type(view), tuple)
            self.assertEqual([type(part) for part in view], [int] + [list] * 5)
            for hand in view[1]:
                self.assertEqual([type(part) for part in hand], [int, str, int, list])
            for good in view[2] + view[3]:
                self.assertEqual([type(part) for part in (good,) + good], [tuple, int, list, list])

    def test_told_lists_changed_behind(self):
        for yard in yards():
            went_until(yard, 2)
            view, log = copy.deepcopy(yard.view()), yard.log()
            spoil(yard.view())
            yard.log().clear()
            self.assertEqual((yard.view(), yard.log()), (view, log))
            lists = lists_of(yard.view()) + lists_of(yard.view()) + lists_of(yard.log())
            self.assertEqual(len({id(one) for one in lists}), len(lists))

    def test_lists_handed_in_changed_behind_and_programs_stay(self):
        for kind, agenda in KINDS:
            one, outer = program(*ROWS), copy.deepcopy(OUTER)
            yard, other = kind(one, outer, agenda()), kind(program(*ROWS), OUTER, agenda())
            self.assertEqual(went(kind(one, outer, agenda())).log(), went(other).log())
            self.assertEqual((one, outer), (program(*ROWS), OUTER))
            spoil(one)
            spoil(outer)
            self.assertEqual(went(yard).log(), other.log())
            self.assertEqual(yard.view(), other.view())

    def test_bodies_handed_in_changed_behind(self):
        rows = ["hand h", "let n 0", "while n < 2", "let n n+1", "if n = 1", "start g n", "else", "start g 0-n", "end",
                "end", "end", "hand g a", "say w a", "end"]
        for kind, agenda in KINDS:
            one = program(*rows)
            yard = kind(one, [start(0, "h")], agenda())
            yard.step()
            spoil(one)
            self.assertEqual([row[4] for row in went(yard).log() if row[2] == "says"], [1, -2])


def lists_of(thing):
    found = [thing] if isinstance(thing, list) else []
    if isinstance(thing, (list, tuple)):
        for part in thing:
            found.extend(lists_of(part))
    return found


def spoil(thing):
    for one in lists_of(thing):
        one.clear()


class Standings(unittest.TestCase):
    def plain(self, thing):
        self.assertIn(type(thing), (tuple, int, str, type(None)))
        if isinstance(thing, tuple):
            for part in thing:
                self.plain(part)

    def test_of_plain_things(self):
        for yard in yards():
            self.plain(yard.kept())
            went_until(yard, 2)
            self.assertIs(type(yard.kept()), tuple)
            self.plain(yard.kept())
            self.plain(went(yard).kept())

    def test_handing_out_changes_nothing(self):
        for yard, other in zip(yards(), yards()):
            while yard.next_moment() is not None:
                if standable(yard):
                    yard.kept()
                yard.step()
                other.step()
                self.assertEqual((yard.view(), yard.log()), (other.view(), other.log()))

    def test_taken_up_it_goes_on_as_it_went(self):
        for kind, agenda in KINDS:
            for other in (ListAgenda, HeapAgenda):
                self.goes_on(kind, agenda, other, program(*ROWS), OUTER)
        for seed in range(120):
            chance = random.Random(seed)
            one = drawn_program(chance)
            outer = drawn_outer(chance, one)
            kind, agenda = chance.choice(KINDS)
            self.goes_on(kind, agenda, chance.choice([ListAgenda, HeapAgenda]), one, outer, chance)

    def goes_on(self, kind, agenda, other, one, outer, chance=None):
        whole = went(kind(one, outer, agenda()), 300)
        yard = kind(one, outer, agenda())
        for step in range(300):
            if standable(yard) and (chance is None or chance.random() < 0.3):
                log, kept, view = yard.log(), yard.kept(), yard.view()
                again = kind(one, outer, other())
                again.stand(kept)
                self.assertEqual((again.log(), again.end(), again.next_moment()), ([], None, yard.next_moment()))
                self.assertEqual((again.kept(), again.view()[1:]), (kept, view[1:]))
                self.assertEqual((yard.kept(), yard.view(), yard.log()), (kept, view, log))
                went(again, 300 - step)
                self.assertEqual((log + again.log(), again.end()), (whole.log(), whole.end()))
                self.assertEqual(again.view()[1:], whole.view()[1:])
                if again.log():
                    self.assertEqual(again.view(), whole.view())
            yard.step()

    def test_taken_up_where_a_run_was_already(self):
        for yard, other in zip(yards(), yards()):
            went_until(yard, 2)
            kept = yard.kept()
            went(other)
            other.stand(kept)
            self.assertEqual(other.log(), [])
            rows = len(yard.log())
            self.assertEqual((went(other).log(), other.view()), (went(yard).log()[rows:], yard.view()))
            other.stand(kept)
            self.assertEqual(went(other).log(), yard.log()[rows:])

    def test_taken_up_behind_a_stop(self):
        rows = ["hand h", "wait 2", "wait x", "end"]
        for yard in yards(rows, [start(0, "h")]):
            went_until(yard, 0)
            kept = yard.kept()
            self.assertEqual(went(yard).end(), ("unknown", 1, "x"))
            yard.stand(kept)
            self.assertEqual((yard.end(), yard.next_moment(), yard.log()), (None, 2, []))
            yard.step()
            self.assertEqual((yard.end(), yard.moment()), (("unknown", 1, "x"), 2))

    def test_happenings_at_a_moment_are_counted_anew(self):
        rows = ["hand h", "let n 0", "while n < 498", "let n n+1", "wait 0", "end", "wait 1", "let n 0",
                "while n < 499", "let n n+1", "wait 0", "end", "end"]
        for yard in yards(rows, [start(0, "h")]):
            went_until(yard, 0)
            kept = yard.kept()
            yard.stand(kept)
            self.assertEqual((went(yard).end(), yard.moment()), (None, 1))

    def alike(self, first, second, alike):
        for kind in (PlainYard, CodeYard):
            rows, outer, until = first
            one = went_until(kind(program(*rows), outer, ListAgenda()), until)
            rows, outer, until = second
            other = went_until(kind(program(*rows), outer, HeapAgenda()), until)
            self.assertEqual(one.kept() == other.kept(), alike)

    def test_alike_but_for_the_moment(self):
        rows = ["store s 0 9", "hand h", "wait 1", "end"]
        self.alike((rows, [bring(1, "s", 2)], 5), (rows, [bring(1, "s", 1), bring(3, "s", 1)], 5), True)
        self.alike((rows, [], 5), (rows, [], 5), True)

    def test_not_alike_in_each_part(self):
        rows = ["tool t 2", "store s 5 9", "row r 1 1", "hand h n", "let a 0", "if n = 1", "let a 1", "end",
                "if n = 2", "take t 1", "end", "if n = 3", "get s 1", "end", "if n = 4", "draw a r", "let a 0", "end",
                "if n = 6", "wait 8", "end", "if n = 7", "wait 9", "end", "let n 0", "wait 9", "wait 9", "end"]
        base = (rows, [start(0, "h", 0)], 8)
        for n in (1, 2, 3, 4, 6, 7):
            self.alike(base, (rows, [start(0, "h", n)], 8), False)
        self.alike(base, (rows, [start(1, "h", 0)], 8), False)
        self.alike(base, (rows, [start(0, "h", 0), start(90, "h", 0)], 8), False)
        self.alike(base, (rows, [start(0, "h", 9)], 8), True)

    def test_not_alike_where_more_hands_have_begun_to_be(self):
        rows = ["hand h", "end"]
        self.alike((rows, [start(0, "h")], 5), (rows, [start(0, "h"), start(0, "h")], 5), False)
        self.alike((rows, [start(0, "h"), start(3, "h")], 5), (rows, [start(0, "h"), start(0, "h")], 5), True)

    def test_alike_just_where_the_views_are(self):
        for seed in range(60):
            chance = random.Random(seed)
            one = drawn_program(chance)
            outers = [drawn_outer(chance, one, 3) for count in range(3)]
            for kind in (PlainYard, CodeYard):
                self.compared(one, outers, kind)

    def compared(self, one, outers, kind):
        told = []
        for outer in outers:
            yard, begun = kind(one, outer, ListAgenda()), 0
            for step in range(60):
                if standable(yard):
                    begun = len([row for row in yard.log() if row[2] == "begins"])
                    left = len(outer) - len([row for row in yard.log() if row[2] == "brings"])
                    left -= outer_starts_done(outer, yard)
                    told.append((yard.kept(), yard.view()[1:], begun, left))
                yard.step()
        for kept, *rest in told:
            for other, *others in told:
                self.assertEqual(kept == other, rest == others)


def outer_starts_done(outer, yard):
    """A standing is asked for behind a whole moment, so all starts of moments till then are done."""
    return len([thing for thing in outer if thing[1] == "start" and yard.log() and thing[0] <= yard.moment()])


if __name__ == "__main__":
    unittest.main()
