"""Promises [2] and [3]: what holds over the whole, for drawn programs and lists from without."""

import copy
import random
import unittest

from helper import KINDS, changed_outer, drawn_outer, drawn_program, program, start
from rerunyard.agendas import HeapAgenda, ListAgenda
from rerunyard.coder import code_of
from rerunyard.doomed import chain, doomed, why
from rerunyard.logs import read_log, shown_log
from rerunyard.looker import sound
from rerunyard.machine import CodeYard
from rerunyard.plain import PlainYard
from rerunyard.runs import kept_run, rerun, run_until
from rerunyard.sums import goods_at, stood, used, waits

UNTIL = 25


class Whole(unittest.TestCase):
    def drawn(self, count, first=5000):
        for seed in range(first, first + count):
            chance = random.Random(seed)
            one = drawn_program(chance)
            outer = drawn_outer(chance, one)
            with self.subTest(seed):
                self.assertTrue(sound(one))
                yield chance, one, outer

    def test_all_runs_are_the_same_whichever_agenda_is_used(self):
        for chance, one, outer in self.drawn(300):
            yards = [kind(one, outer, agenda()) for kind, agenda in KINDS]
            while yards[0].next_moment() is not None and yards[0].next_moment() <= UNTIL:
                for yard in yards:
                    yard.step()
                self.assertEqual([yard.view() for yard in yards[1:]], [yards[0].view()] * 3)
                self.assertEqual([yard.next_moment() for yard in yards[1:]], [yards[0].next_moment()] * 3)
            self.assertEqual([yard.log() for yard in yards[1:]], [yards[0].log()] * 3)
            self.assertEqual([run_until(yard, UNTIL) for yard in yards[1:]], [run_until(yards[0], UNTIL)] * 3)

    def test_a_run_taken_up_from_any_kept_standing_goes_on_as_it_went(self):
        for chance, one, outer in self.drawn(120):
            kept = kept_run(one, outer, UNTIL)
            for moment, standing, rows in kept[4]:
                yard = CodeYard(one, outer, chance.choice([ListAgenda, HeapAgenda])())
                yard.stand(standing)
                self.assertEqual(run_until(yard, UNTIL), kept[3])
                self.assertEqual(kept[2][:rows] + yard.log(), kept[2])

    def test_run_anew_is_run_from_the_beginning(self):
        for chance, one, outer in self.drawn(400):
            kept, new = kept_run(one, outer, UNTIL), changed_outer(chance, one, outer)
            log, end, begun, joined = rerun(one, kept, new)
            plain = PlainYard(one, new, ListAgenda())
            self.assertEqual((end, log), (run_until(plain, UNTIL), plain.log()))
            if joined is not None:
                standings = []
                for things in (outer, new):
                    yard = PlainYard(one, things, ListAgenda())
                    run_until(yard, joined - 1)
                    self.assertEqual(yard.next_moment(), joined)
                    standings.append(yard.kept())
                self.assertEqual(*standings)

    def test_doomed_hands_never_go_on(self):
        found = 0
        for chance, one, outer in self.drawn(500):
            yard, lost, rows = PlainYard(one, outer, HeapAgenda()), {}, 0
            while yard.next_moment() is not None and yard.next_moment() <= UNTIL:
                yard.step()
                self.assertEqual([row for row in yard.log()[rows:] if row[1] in lost], [])
                rows = len(yard.log())
                view = yard.view()
                now = doomed(view)
                self.assertLessEqual(set(lost), set(now))
                for hand in now:
                    links = chain(view, hand)
                    self.assertLessEqual(set(links), set(now))
                    self.assertTrue(why(view, links[-1])[0] == "more" or links.count(links[-1]) == 2)
                lost = {hand: True for hand in now}
            found += len(lost)
        self.assertGreater(found, 30)

    def test_the_log_tells_what_the_views_tell(self):
        for chance, one, outer in self.drawn(200):
            yard, views = CodeYard(one, outer, HeapAgenda()), []
            for moment in range(UNTIL):
                run_until(yard, moment)
                views.append(yard.view())
            log = read_log(shown_log(yard.log()))
            self.assertEqual(log, yard.log())
            self.assertEqual([goods_at(one, log, moment) for moment in range(UNTIL)], [view[2:4] for view in views])
            for k, (name, count) in enumerate(one[0]):
                self.assertEqual(stood(log, name, UNTIL), sum(len(view[2][k][2]) for view in views))
                self.assertEqual(used(one, log, name, UNTIL), sum(count - view[2][k][0] for view in views))
            for k, (name, first, most) in enumerate(one[1]):
                self.assertEqual(stood(log, name, UNTIL), sum(len(view[3][k][1] + view[3][k][2]) for view in views))
            left = sum(len(tool[2]) for tool in views[-1][2]) + sum(len(s[1] + s[2]) for s in views[-1][3])
            self.assertEqual(len([wait for wait in waits(log) if wait[5] is None]), left)

    def test_nothing_that_is_handed_in_is_changed(self):
        for chance, one, outer in self.drawn(60):
            new = changed_outer(chance, one, outer)
            kept = kept_run(one, outer, UNTIL)
            before = copy.deepcopy((one, outer, new, kept))
            rerun(one, kept, new)
            code_of(one)
            for kind, agenda in KINDS:
                yard = kind(one, outer, agenda())
                run_until(yard, UNTIL)
                view = yard.view()
                kept_view = copy.deepcopy(view)
                doomed(view)
                self.assertEqual(view, kept_view)
            goods_at(one, kept[2], 9)
            waits(kept[2])
            shown_log(kept[2])
            self.assertEqual((one, outer, new, kept), before)

    def test_one_list_handed_in_twice_is_told_as_two(self):
        numbers = [1]
        outer = [(0, "start", "h", numbers), (0, "start", "h", numbers)]
        told = kept_run(program("hand h n", "end"), outer, 5)[0]
        self.assertEqual(told, [start(0, "h", 1)] * 2)
        self.assertEqual(len({id(numbers), id(told[0][3]), id(told[1][3])}), 3)


if __name__ == "__main__":
    unittest.main()
