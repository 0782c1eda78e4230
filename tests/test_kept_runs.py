"""Promises [2], [3], [21] and [22]: kept runs, and kept runs run anew."""

import copy
import random
import unittest

from helper import bring, changed_outer, drawn_outer, drawn_program, program, start
from rerunyard.agendas import HeapAgenda, ListAgenda
from rerunyard.machine import CodeYard
from rerunyard.plain import PlainYard
from rerunyard.runs import kept_run, rerun, run_anew, run_until

# A hand takes a tool for n moments; a bringing that is lost, or what ended, leaves no trace.
ROWS = ["tool t 1", "store s 0 4", "hand h n", "take t 1", "wait n", "give t 1", "wait 1", "end", "hand g", "get s 2",
        "end"]


def yard_at(one, outer, moment):
    """A run from the beginning, ahead of the first happening that is not earlier than the moment."""
    yard = CodeYard(one, outer, ListAgenda())
    run_until(yard, moment - 1)
    return yard


def moments_of(one, outer, until):
    yard, moments = PlainYard(one, outer, ListAgenda()), []
    while yard.next_moment() is not None and yard.next_moment() <= until:
        moments.append(yard.next_moment())
        yard.step()
    return sorted(set(moments))


class KeptRuns(unittest.TestCase):
    def kept(self, one, outer, until):
        kept = kept_run(one, outer, until)
        plain = PlainYard(one, outer, ListAgenda())
        end = run_until(plain, until)
        self.assertEqual(kept[:4], (outer, until, plain.log(), end))
        self.assertEqual([type(part) for part in kept], [list, int, list, tuple, list])
        self.assertEqual([mark[0] for mark in kept[4]], moments_of(one, outer, until))
        for moment, standing, rows in kept[4]:
            yard = yard_at(one, outer, moment)
            self.assertEqual((standing, rows), (yard.kept(), len(yard.log())))
            again = CodeYard(one, outer, HeapAgenda())
            again.stand(standing)
            self.assertEqual(run_until(again, until), end)
            self.assertEqual(kept[2][:rows] + again.log(), kept[2])
        return kept

    def test_marks_with_their_moments_standings_and_rows(self):
        kept = self.kept(program(*ROWS), [start(2, "h", 3), bring(4, "s", 1), start(4, "h", 1)], 50)
        self.assertEqual([(mark[0], mark[2]) for mark in kept[4]], [(2, 0), (4, 3), (5, 6), (6, 10), (7, 13)])
        self.assertEqual(kept[3], ("done",))

    def test_until(self):
        outer = [start(2, "h", 3), bring(4, "s", 1), start(4, "h", 1)]
        for until in range(0, 9):
            kept = self.kept(program(*ROWS), outer, until)
            self.assertEqual(kept[3], ("until",) if until < 7 else ("done",))
            self.assertTrue(all(mark[0] <= until for mark in kept[4]))

    def test_nothing_happens(self):
        self.assertEqual(self.kept(program(*ROWS), [], 50), ([], 50, [], ("done",), []))
        self.assertEqual(self.kept(program(*ROWS), [start(3, "h", 1)], 2), ([start(3, "h", 1)], 2, [], ("until",), []))

    def test_a_moment_whose_first_happening_stops_the_run(self):
        kept = self.kept(program("hand h", "wait 5", "wait x", "end"), [start(0, "h")], 50)
        self.assertEqual(kept[3], ("unknown", 1, "x"))
        self.assertEqual([(mark[0], mark[2]) for mark in kept[4]], [(0, 0), (5, 2)])
        kept = self.kept(program("hand h", "end"), [start(k, "h") for k in range(61)], 90)
        self.assertEqual((kept[3], kept[4][-1][0], kept[4][-1][2]), (("many",), 60, 120))

    def test_a_stop_behind_others_at_its_moment(self):
        kept = self.kept(program("hand h", "while 0 < 1", "wait 0", "end", "end"), [start(3, "h")], 50)
        self.assertEqual((kept[3], len(kept[4])), (("long",), 1))

    def test_drawn(self):
        for seed in range(80):
            chance = random.Random(seed)
            one = drawn_program(chance)
            self.kept(one, drawn_outer(chance, one), chance.choice([0, 3, 9, 20]))

    def test_lists_are_the_askers_own(self):
        one, outer = program(*ROWS), [start(2, "h", 3), bring(4, "s", 1)]
        kept = kept_run(one, outer, 50)
        meant = copy.deepcopy(kept)
        outer[0][3].clear()
        outer.clear()
        for part in one:
            part.clear()
        self.assertEqual(kept, meant)
        outer = [start(2, "h", 3)]
        other = kept_run(program(*ROWS), outer, 50)
        other[0][0][3].append(5)
        other[0].clear()
        self.assertEqual(outer, [start(2, "h", 3)])

    def test_program_and_list_stay(self):
        one, outer = program(*ROWS), [start(2, "h", 3), bring(4, "s", 1)]
        kept = kept_run(one, outer, 50)
        rerun(one, kept, [start(2, "h", 1)])
        self.assertEqual((one, outer), (program(*ROWS), [start(2, "h", 3), bring(4, "s", 1)]))


class Reruns(unittest.TestCase):
    def anew(self, one, old, new, until=60):
        """Run anew, held against a run from the beginning and against the document's words."""
        kept = kept_run(one, old, until)
        before = copy.deepcopy((one, kept, new))
        told = rerun(one, kept, new)
        self.assertEqual((one, kept, new), before)
        whole = kept_run(one, new, until)
        self.assertEqual(told, (whole[2], whole[3], *self.begun_and_joined(old, new, kept, whole)))
        self.assertEqual(run_anew(one, kept, new)[0], whole)
        self.assertEqual([type(part) for part in told[:2]], [list, tuple])
        return told[2:]

    def begun_and_joined(self, old, new, kept, whole):
        first = 0
        while old[first:first + 1] and old[first:first + 1] == new[first:first + 1]:
            first += 1
        old, new = old[first:], new[first:]
        while old and new and old[-1] == new[-1]:
            old, new = old[:-1], new[:-1]
        changed = [thing[0] for thing in old + new]
        if not changed:
            return (None, None)
        begun = [mark[0] for mark in kept[4] if mark[0] <= min(changed)]
        other = {mark[0]: mark[1] for mark in whole[4]}
        joined = [mark[0] for mark in kept[4] if mark[0] > max(changed) and other.get(mark[0]) == mark[1]]
        return (begun[-1] if begun else None, joined[0] if joined else None)

    OUTER = [bring(1, "s", 1), start(2, "h", 3), bring(4, "s", 1), start(7, "h", 1), bring(9, "s", 9),
             bring(11, "s", 1), start(20, "h", 2)]

    def test_nothing_changed(self):
        one = program(*ROWS)
        self.assertEqual(self.anew(one, self.OUTER, copy.deepcopy(self.OUTER)), (None, None))
        self.assertEqual(self.anew(one, [], []), (None, None))

    def test_a_thing_more(self):
        one = program(*ROWS)
        self.assertEqual(self.anew(one, self.OUTER, self.OUTER[:6] + [bring(12, "s", 5)] + self.OUTER[6:]), (11, 20))
        self.assertEqual(self.anew(one, self.OUTER, self.OUTER[:5] + [bring(9, "s", 1)] + self.OUTER[5:]), (9, 11))
        self.assertEqual(self.anew(one, self.OUTER, self.OUTER[:3] + [bring(5, "s", 1)] + self.OUTER[3:]), (5, 11))

    def test_a_thing_less(self):
        one = program(*ROWS)
        self.assertEqual(self.anew(one, self.OUTER, self.OUTER[:5] + self.OUTER[6:]), (11, 20))
        self.assertEqual(self.anew(one, self.OUTER, self.OUTER[:2] + self.OUTER[3:]), (4, 11))
        self.assertEqual(self.anew(one, self.OUTER, self.OUTER[:3] + self.OUTER[4:]), (7, None))

    def test_a_thing_exchanged(self):
        one = program(*ROWS)
        self.assertEqual(self.anew(one, self.OUTER, self.OUTER[:4] + [bring(9, "s", 8)] + self.OUTER[5:]), (9, 11))
        self.assertEqual(self.anew(one, self.OUTER, self.OUTER[:3] + [start(7, "h", 2)] + self.OUTER[4:]), (7, 11))

    def test_a_thing_earlier_and_later(self):
        one = program(*ROWS)
        self.assertEqual(self.anew(one, self.OUTER, self.OUTER[:4] + [bring(8, "s", 9)] + self.OUTER[5:]), (8, 11))
        self.assertEqual(self.anew(one, self.OUTER, self.OUTER[:4] + [bring(10, "s", 9)] + self.OUTER[5:]), (9, 11))
        moved = [self.OUTER[0]] + self.OUTER[2:4] + [start(8, "h", 3)] + self.OUTER[4:]
        self.anew(one, self.OUTER, moved)

    def test_at_the_beginning_and_at_the_end(self):
        one = program(*ROWS)
        self.assertEqual(self.anew(one, self.OUTER, [bring(0, "s", 1)] + self.OUTER), (None, 11))
        self.assertEqual(self.anew(one, self.OUTER, [bring(1, "s", 1)] + self.OUTER), (1, 11))
        self.assertEqual(self.anew(one, self.OUTER, self.OUTER[1:]), (1, 11))
        self.assertEqual(self.anew(one, self.OUTER, self.OUTER[:-1]), (20, None))
        self.assertEqual(self.anew(one, self.OUTER, self.OUTER + [bring(23, "s", 1)]), (23, None))
        self.assertEqual(self.anew(one, self.OUTER, self.OUTER + [bring(21, "s", 1)]), (20, 22))

    def test_all_changed(self):
        one = program(*ROWS)
        self.assertEqual(self.anew(one, self.OUTER, []), (1, None))
        self.assertEqual(self.anew(one, [], self.OUTER), (None, None))
        self.assertEqual(self.anew(one, [start(3, "h", 1)], [start(3, "h", 2)]), (3, None))
        self.assertEqual(self.anew(one, [bring(3, "s", 1)], [start(5, "g")]), (3, None))

    def test_alike_things_that_are_taken_away_or_put_to_them(self):
        one = program(*ROWS)
        alike = [bring(2, "s", 1)] * 3 + [bring(9, "s", 1)] + [bring(15, "s", 1)]
        self.assertEqual(self.anew(one, alike, alike[1:]), (2, None))
        self.assertEqual(self.anew(one, alike, alike[:1] + alike), (2, 15))

    def test_the_beginning_goes_ahead_of_the_end(self):
        one = program("store s 0 1", "hand h", "end")
        old = [bring(1, "s", 1), bring(2, "s", 1), bring(2, "s", 1), bring(8, "s", 1)]
        self.assertEqual(self.anew(one, old, old[:2] + old[3:]), (2, 8))

    def test_changes_behind_the_end(self):
        one = program(*ROWS)
        self.assertEqual(self.anew(one, self.OUTER, self.OUTER[:-1], until=10), (9, None))
        stopped = program("hand h n", "wait n", "wait x", "end")
        self.assertEqual(self.anew(stopped, [start(0, "h", 2), start(9, "h", 1)], [start(0, "h", 2)]), (2, None))

    def test_a_stop_that_comes_or_goes(self):
        one = program("hand h n", "if n = 9", "wait x", "end", "wait n", "end")
        self.anew(one, [start(0, "h", 2), start(3, "h", 1), start(8, "h", 1)],
                  [start(0, "h", 2), start(3, "h", 9), start(8, "h", 1)])
        self.anew(one, [start(0, "h", 2), start(3, "h", 9), start(8, "h", 1)],
                  [start(0, "h", 2), start(3, "h", 1), start(8, "h", 1)])
        # Joined ahead of the stop, which both runs have then.
        self.assertEqual(self.anew(one, [start(0, "h", 2), start(5, "h", 9)], [start(0, "h", 1), start(5, "h", 9)]),
                         (0, 5))

    def test_joined_at_a_moment_whose_first_happening_stops_the_run(self):
        one = program("store s 0 1", "hand h", "end")
        hands = [start(1, "h")] * 60
        self.assertEqual(self.anew(one, [bring(1, "s", 1)] + hands + [start(7, "h")],
                                   [bring(1, "s", 2)] + hands + [start(7, "h")]), (1, 7))

    def test_as_many_hands_must_have_begun_to_be(self):
        one = program("hand h", "end")
        self.assertEqual(self.anew(one, [start(1, "h"), start(9, "h")], [start(1, "h"), start(1, "h"), start(9, "h")]),
                         (1, None))
        self.assertEqual(self.anew(one, [start(1, "h"), start(2, "h"), start(9, "h")],
                                   [start(1, "h"), start(1, "h"), start(9, "h")]), (1, 9))

    def test_no_joining_at_the_moment_of_a_change(self):
        one = program("store s 0 1", "hand h", "wait 5", "wait 1", "end")
        self.assertEqual(self.anew(one, [start(0, "h"), bring(1, "s", 1), bring(5, "s", 1), bring(9, "s", 1)],
                                   [start(0, "h"), bring(1, "s", 1), bring(5, "s", 2), bring(9, "s", 1)]), (5, 6))

    def test_nothing_happens_in_the_kept_run(self):
        one = program(*ROWS)
        self.assertEqual(self.anew(one, [start(9, "h", 1)], [start(3, "h", 1)], until=5), (None, None))
        self.assertEqual(self.anew(one, [start(3, "h", 1)], [start(9, "h", 1)], until=5), (3, None))

    def test_drawn(self):
        joined = 0
        for seed in range(900):
            chance = random.Random(seed)
            one = drawn_program(chance)
            old = drawn_outer(chance, one)
            with self.subTest(seed):
                told = self.anew(one, old, changed_outer(chance, one, old), chance.choice([5, 12, 30]))
                joined += told[1] is not None
        self.assertGreater(joined, 30)

    def test_run_anew_time_and_again(self):
        for seed in range(60):
            chance = random.Random(seed)
            one = drawn_program(chance)
            outer = drawn_outer(chance, one)
            kept = kept_run(one, outer, 25)
            for count in range(6):
                outer = changed_outer(chance, one, outer)
                kept, begun, joined = run_anew(one, kept, outer)
                self.assertEqual(kept, kept_run(one, outer, 25))

    def test_nothing_ahead_of_begun_and_behind_joined_is_run(self):
        one = program(*ROWS)
        kept = kept_run(one, self.OUTER, 60)
        new = self.OUTER[:4] + [bring(9, "s", 8)] + self.OUTER[5:]
        begun, joined = 9, 11
        rows = {mark[0]: mark[2] for mark in kept[4]}
        marked = [("kept",) + row if k < rows[begun] or k >= rows[joined] else row for k, row in enumerate(kept[2])]
        told = rerun(one, (kept[0], kept[1], marked, kept[3], kept[4]), new)
        self.assertEqual(told[2:], (begun, joined))
        self.assertEqual([row for row in told[0] if row[0] != "kept"], [(9, 0, "brings", "s", 2), (9, 2, "ends")])
        self.assertEqual([row[1:] if row[0] == "kept" else row for row in told[0]], kept_run(one, new, 60)[2])

    def test_told_lists_are_the_askers_own(self):
        one = program(*ROWS)
        kept = kept_run(one, self.OUTER, 60)
        before = copy.deepcopy(kept)
        for new in (self.OUTER, self.OUTER[1:], self.OUTER + [bring(23, "s", 1)]):
            rerun(one, kept, new)[0].clear()
            anew = run_anew(one, kept, new)[0]
            for part in (anew[0], anew[2], anew[4]):
                part.clear()
            self.assertEqual(kept, before)


if __name__ == "__main__":
    unittest.main()
