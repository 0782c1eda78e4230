"""Promises [2], [3] and [25]: reckonings from the log."""

import copy
import random
import unittest

from helper import KINDS, bring, drawn_outer, drawn_program, program, start, went_until
from rerunyard.agendas import ListAgenda
from rerunyard.plain import PlainYard
from rerunyard.sums import goods_at, stood, used, waits

HEAD = ["tool saw 3", "store bin 2 6", "tool axe 1"]
LOG = [
    (1, 1, "takes", "saw", 2), (1, 2, "queues", "take", "saw", 2), (1, 3, "queues", "take", "saw", 1),
    (2, 4, "gets", "bin", 2), (2, 5, "queues", "get", "bin", 3), (2, 6, "queues", "get", "bin", 1),
    (4, 1, "gives", "saw", 1), (4, 2, "takes", "saw", 2), (4, 1, "takes", "axe", 1),
    (6, 0, "brings", "bin", 4), (6, 5, "gets", "bin", 3), (6, 6, "gets", "bin", 1),
    (7, 4, "puts", "bin", 6), (7, 5, "queues", "put", "bin", 1),
    (9, 1, "gives", "saw", 1), (9, 3, "takes", "saw", 1), (9, 0, "brings", "bin", 0),
]


class ByHand(unittest.TestCase):
    def at(self, moment, log=LOG):
        return goods_at(program(*HEAD), log, moment)

    def test_goods_at(self):
        first = ([(3, [], []), (1, [], [])], [(2, [], [])])
        self.assertEqual(self.at(-1), first)
        self.assertEqual(self.at(0), first)
        self.assertEqual(self.at(1), ([(1, [(1, 2)], [(2, 2), (3, 1)]), (1, [], [])], [(2, [], [])]))
        self.assertEqual(self.at(2)[1], [(0, [(5, 3), (6, 1)], [])])
        self.assertEqual(self.at(3), self.at(2))
        self.assertEqual(self.at(4)[0], [(0, [(1, 1), (2, 2)], [(3, 1)]), (0, [(1, 1)], [])])
        self.assertEqual(self.at(6)[1], [(0, [], [])])
        self.assertEqual(self.at(8)[1], [(6, [], [(5, 1)])])
        last = ([(0, [(2, 2), (3, 1)], []), (0, [(1, 1)], [])], [(6, [], [(5, 1)])])
        self.assertEqual(self.at(9), last)
        self.assertEqual(self.at(10 ** 29), last)
        self.assertEqual(self.at(-(10 ** 29)), first)

    def test_kinds_and_told_lists(self):
        told = self.at(1)
        self.assertEqual([type(part) for part in told], [list, list])
        told[0][0][1].clear()
        told[0].clear()
        self.assertEqual(self.at(1)[0][0], (1, [(1, 2)], [(2, 2), (3, 1)]))

    def test_no_rows(self):
        self.assertEqual(self.at(5, []), ([(3, [], []), (1, [], [])], [(2, [], [])]))
        self.assertEqual(waits([]), [])
        self.assertEqual((used(program(*HEAD), [], "saw", 9), stood([], "saw", 9)), (0, 0))

    def test_waits(self):
        self.assertEqual(waits(LOG), [(2, "take", "saw", 2, 1, 4), (3, "take", "saw", 1, 1, 9),
                                      (5, "get", "bin", 3, 2, 6), (6, "get", "bin", 1, 2, 6),
                                      (5, "put", "bin", 1, 7, None)])

    def test_waits_of_a_hand_that_queues_again(self):
        log = [(1, 1, "queues", "take", "saw", 1), (2, 1, "takes", "saw", 1), (2, 1, "takes", "saw", 1),
               (3, 1, "queues", "take", "saw", 1), (3, 2, "takes", "saw", 1), (3, 1, "takes", "axe", 1),
               (4, 1, "gives", "saw", 1), (5, 1, "takes", "saw", 1), (6, 1, "queues", "take", "saw", 2),
               (7, 1, "puts", "bin", 2)]
        self.assertEqual(waits(log), [(1, "take", "saw", 1, 1, 2), (1, "take", "saw", 1, 3, 5),
                                      (1, "take", "saw", 2, 6, None)])

    def test_served_at_the_same_moment(self):
        log = [(3, 1, "queues", "put", "bin", 1), (3, 1, "puts", "bin", 1)]
        self.assertEqual(waits(log), [(1, "put", "bin", 1, 3, 3)])
        self.assertEqual(stood(log, "bin", 9), 0)

    def test_a_get_serves_no_wait_for_a_put(self):
        log = [(1, 1, "queues", "put", "bin", 1), (2, 1, "gets", "bin", 1), (3, 1, "puts", "bin", 1)]
        self.assertEqual(waits(log), [(1, "put", "bin", 1, 1, 3)])
        self.assertEqual(self.at(2, log)[1], [(1, [], [(1, 1)])])

    def test_used(self):
        # Behind the moments 1 to 3 two pieces are not free, from 4 on all three.
        for until, meant in [(-5, 0), (0, 0), (1, 0), (2, 2), (4, 6), (5, 9), (6, 12), (10, 24), (100, 294)]:
            self.assertEqual(used(program(*HEAD), LOG, "saw", until), meant)
        self.assertEqual([used(program(*HEAD), LOG, "axe", until) for until in (4, 5, 9)], [0, 1, 5])
        self.assertEqual(used(program(*HEAD), LOG, "axe", 10 ** 29), 10 ** 29 - 4)
        self.assertEqual(used(program(*HEAD), LOG, "axe", -(10 ** 29)), 0)

    def test_stood(self):
        for until, meant in [(-5, 0), (0, 0), (1, 0), (2, 2), (4, 6), (5, 7), (9, 11), (100, 11)]:
            self.assertEqual(stood(LOG, "saw", until), meant)
        for until, meant in [(2, 0), (3, 2), (6, 8), (7, 8), (8, 9), (20, 21)]:
            self.assertEqual(stood(LOG, "bin", until), meant)
        self.assertEqual(stood(LOG, "axe", 50), 0)
        self.assertEqual(stood(LOG, "bin", 10 ** 29), 10 ** 29 + 1)
        self.assertEqual(stood(LOG, "bin", -(10 ** 29)), 0)

    def test_other_rows_are_nothing(self):
        others = [(0, 1, "begins", "saw"), (0, 2, "begins", "takes"), (0, 3, "begins", "queues"), (0, 1, "waits", 3),
                  (0, 1, "says", "saw", 2), (0, 1, "says", "takes", 2), (0, 2, "says", "bin", -4), (0, 1, "ends"),
                  (0, 1, "says", "queues", 1), (0, 3, "says", "gives", 5), (0, 3, "says", "brings", 5)]
        log = []
        for row in LOG:
            log.extend([(row[0],) + other[1:] for other in others] + [row])
        for moment in range(-1, 11):
            self.assertEqual(self.at(moment, log), self.at(moment))
            self.assertEqual(used(program(*HEAD), log, "saw", moment), used(program(*HEAD), LOG, "saw", moment))
            self.assertEqual(stood(log, "saw", moment), stood(LOG, "saw", moment))
        self.assertEqual(waits(log), waits(LOG))

    def test_tools_and_stores_called_like_words_of_the_log(self):
        one = program("tool takes 2", "store queues 1 4", "tool gives 1", "store ends 0 3")
        log = [(0, 1, "begins", "takes"), (1, 1, "takes", "takes", 2), (1, 2, "queues", "take", "takes", 1),
               (2, 2, "queues", "get", "queues", 2), (2, 3, "takes", "gives", 1), (3, 0, "brings", "queues", 1),
               (3, 2, "gets", "queues", 2), (3, 3, "gives", "gives", 1), (4, 4, "puts", "ends", 3), (4, 1, "ends"),
               (4, 1, "gives", "takes", 2), (4, 2, "takes", "takes", 1)]
        self.assertEqual(goods_at(one, log, 2), ([(0, [(1, 2)], [(2, 1)]), (0, [(3, 1)], [])],
                                                 [(1, [(2, 2)], []), (0, [], [])]))
        self.assertEqual(goods_at(one, log, 4), ([(1, [(2, 1)], []), (1, [], [])], [(0, [], []), (3, [], [])]))
        self.assertEqual(waits(log), [(2, "take", "takes", 1, 1, 4), (2, "get", "queues", 2, 2, 3)])
        self.assertEqual((used(one, log, "takes", 6), used(one, log, "gives", 6)), (8, 1))
        self.assertEqual((stood(log, "takes", 9), stood(log, "queues", 9), stood(log, "take", 9)), (3, 1, 0))

    def test_without_rows_that_begin_and_end(self):
        """Of a run's log the rows that queue, take, put, get, give and bring are enough."""
        rows = ["tool t 1", "hand h", "take t 1", "wait 2", "end"]
        log = went_until(PlainYard(program(*rows), [start(0, "h"), start(1, "h")], ListAgenda()), 9).log()
        less = [row for row in log if row[2] in ("takes", "gives", "queues")]
        for moment in range(6):
            self.assertEqual(goods_at(program(*rows), less, moment), goods_at(program(*rows), log, moment))
        self.assertEqual(waits(less), waits(log))

    def test_log_and_program_stay(self):
        one, log = program(*HEAD), list(LOG)
        told = waits(log)
        told.clear()
        goods_at(one, log, 5)
        used(one, log, "saw", 5)
        stood(log, "bin", 5)
        self.assertEqual((one, log), (program(*HEAD), LOG))


class AgainstRuns(unittest.TestCase):
    def held_against(self, one, outer, kind, agenda, until):
        yard = kind(one, outer, agenda())
        views, before = [], copy.deepcopy(one)
        for moment in range(until):
            views.append(went_until(yard, moment).view())
        log = yard.log()
        for moment, view in enumerate(views):
            self.assertEqual(goods_at(one, log, moment), (view[2], view[3]))
        self.assertEqual(goods_at(one, log, -1), (kind(one, outer, agenda()).view()[2:4]))
        self.assertEqual(goods_at(one, log, until + 5), (views[-1][2], views[-1][3]))
        served = [row for row in log if row[2] == "queues"]
        self.assertEqual([wait[:5] for wait in waits(log)], [(row[1], *row[3:], row[0]) for row in served])
        for end in (-3, 0, 1, until // 2, until):
            self.sums(one, log, views, end)
        self.assertEqual(one, before)

    def sums(self, one, log, views, end):
        for k, (name, count) in enumerate(one[0]):
            self.assertEqual(used(one, log, name, end), sum(count - view[2][k][0] for view in views[:max(end, 0)]))
            self.assertEqual(stood(log, name, end), sum(len(view[2][k][2]) for view in views[:max(end, 0)]))
        for k, (name, first, most) in enumerate(one[1]):
            self.assertEqual(stood(log, name, end),
                             sum(len(view[3][k][1]) + len(view[3][k][2]) for view in views[:max(end, 0)]))
        for name in [tool[0] for tool in one[0]] + [store[0] for store in one[1]]:
            lasted = [min(end, end if wait[5] is None else wait[5]) - wait[4] for wait in waits(log) if wait[2] == name]
            self.assertEqual(stood(log, name, end), sum(max(0, one) for one in lasted))

    def test_by_hand(self):
        rows = ["tool t 2", "store s 1 4", "hand h n", "take t n", "get s n", "wait 2", "give t 1", "put s n", "wait 1",
                "end"]
        outer = [start(0, "h", 1), start(0, "h", 2), start(1, "h", 1), bring(6, "s", 9), start(7, "h", 2)]
        for kind, agenda in KINDS:
            self.held_against(program(*rows), outer, kind, agenda, 25)

    def test_drawn(self):
        for seed in range(500):
            chance = random.Random(seed)
            one = drawn_program(chance)
            with self.subTest(seed):
                self.held_against(one, drawn_outer(chance, one), *chance.choice(KINDS), 20)


if __name__ == "__main__":
    unittest.main()
