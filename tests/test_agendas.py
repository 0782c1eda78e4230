"""Promises [2] and [10]: agendas, both kinds."""

import random
import unittest

from rerunyard.agendas import HeapAgenda, ListAgenda


def filled(kind, *things):
    agenda = kind()
    for moment, thing in things:
        agenda.put(moment, thing)
    return agenda


def emptied(agenda):
    taken = []
    while agenda.first() is not None:
        first = agenda.first()
        taken.append(agenda.take())
        assert taken[-1][0] == first
    return taken


class Agendas(unittest.TestCase):
    def each(self):
        for kind in (ListAgenda, HeapAgenda):
            with self.subTest(kind.__name__):
                yield kind

    def test_nothing_is_kept_at_first(self):
        for kind in self.each():
            self.assertIsNone(kind().first())
            self.assertEqual(kind().in_order(), [])

    def test_the_least_moment_is_first(self):
        for kind in self.each():
            agenda = filled(kind, (5, 1), (3, 2), (9, 3), (0, 4), (4, 5))
            self.assertEqual(agenda.first(), 0)
            self.assertEqual(agenda.in_order(), [(0, 4), (3, 2), (4, 5), (5, 1), (9, 3)])
            self.assertEqual(agenda.take(), (0, 4))
            self.assertEqual(agenda.first(), 3)
            self.assertEqual(emptied(agenda), [(3, 2), (4, 5), (5, 1), (9, 3)])
            self.assertIsNone(agenda.first())

    def test_moment_0_is_a_moment(self):
        for kind in self.each():
            self.assertEqual(filled(kind, (0, 7)).first(), 0)

    def test_alike_moments_by_which_was_put_first(self):
        for kind in self.each():
            agenda = filled(kind, (2, 9), (1, 8), (2, 1), (1, 7), (2, 9), (1, 3))
            self.assertEqual(agenda.in_order(), [(1, 8), (1, 7), (1, 3), (2, 9), (2, 1), (2, 9)])
            self.assertEqual(emptied(agenda), [(1, 8), (1, 7), (1, 3), (2, 9), (2, 1), (2, 9)])

    def test_alike_moments_behind_takings(self):
        for kind in self.each():
            agenda = filled(kind, (1, 9), (1, 8), (1, 7))
            self.assertEqual(agenda.take(), (1, 9))
            agenda.put(1, 5)
            self.assertEqual(agenda.take(), (1, 8))
            agenda.put(1, 1)
            self.assertEqual(emptied(agenda), [(1, 7), (1, 5), (1, 1)])

    def test_a_moment_ahead_of_one_that_was_taken(self):
        for kind in self.each():
            agenda = filled(kind, (5, 1), (6, 2))
            self.assertEqual(agenda.take(), (5, 1))
            agenda.put(2, 3)
            self.assertEqual(agenda.first(), 2)
            self.assertEqual(emptied(agenda), [(2, 3), (6, 2)])

    def test_telling_changes_nothing(self):
        for kind in self.each():
            agenda = filled(kind, (3, 1), (1, 2), (3, 0))
            for count in range(3):
                self.assertEqual(agenda.first(), 1)
                self.assertEqual(agenda.in_order(), [(1, 2), (3, 1), (3, 0)])
            self.assertEqual(emptied(agenda), [(1, 2), (3, 1), (3, 0)])

    def test_stand_is_in_the_place_of_what_was_kept(self):
        for kind in self.each():
            agenda = filled(kind, (3, 1), (1, 2))
            agenda.stand([(2, 9), (2, 4), (5, 4)])
            self.assertEqual(agenda.first(), 2)
            self.assertEqual(agenda.in_order(), [(2, 9), (2, 4), (5, 4)])
            agenda.put(2, 1)
            agenda.put(0, 6)
            self.assertEqual(emptied(agenda), [(0, 6), (2, 9), (2, 4), (2, 1), (5, 4)])

    def test_stand_without_things(self):
        for kind in self.each():
            agenda = filled(kind, (3, 1))
            agenda.stand([])
            self.assertIsNone(agenda.first())
            self.assertEqual(agenda.in_order(), [])
            agenda.put(4, 2)
            self.assertEqual(emptied(agenda), [(4, 2)])

    def test_what_was_handed_in_is_changed_behind(self):
        for kind in self.each():
            kept = [(1, 1), (2, 2)]
            agenda = kind()
            agenda.stand(kept)
            kept.append((0, 0))
            kept[0] = (9, 9)
            self.assertEqual(agenda.in_order(), [(1, 1), (2, 2)])
            agenda.take()
            agenda.put(0, 5)
            self.assertEqual(kept, [(9, 9), (2, 2), (0, 0)])

    def test_told_lists_changed(self):
        for kind in self.each():
            agenda = filled(kind, (1, 1), (2, 2))
            told = agenda.in_order()
            told.clear()
            self.assertEqual(agenda.in_order(), [(1, 1), (2, 2)])
            self.assertIsNot(agenda.in_order(), agenda.in_order())
            kept = agenda.in_order()
            agenda.take()
            self.assertEqual(kept, [(1, 1), (2, 2)])

    def test_a_told_list_stood_in_the_same_agenda(self):
        for kind in self.each():
            agenda = filled(kind, (2, 1), (1, 2), (2, 0))
            agenda.stand(agenda.in_order())
            agenda.put(1, 7)
            self.assertEqual(emptied(agenda), [(1, 2), (1, 7), (2, 1), (2, 0)])

    def test_big_moments_and_things(self):
        for kind in self.each():
            agenda = filled(kind, (10 ** 29, 10 ** 29), (10 ** 29 - 1, -5))
            self.assertEqual(emptied(agenda), [(10 ** 29 - 1, -5), (10 ** 29, 10 ** 29)])

    def test_both_kinds_deed_by_deed_alike(self):
        for seed in range(60):
            self.drawn_deeds(random.Random(seed))

    def drawn_deeds(self, chance):
        agendas, kept = (ListAgenda(), HeapAgenda()), []
        most = chance.choice([2, 5, 40])
        for thing in range(150):
            deed = chance.random()
            if deed < 0.55:
                moment = chance.randrange(most)
                kept.append((moment, 149 - thing))
                for agenda in agendas:
                    agenda.put(moment, 149 - thing)
            elif deed < 0.95 and kept:
                first = min(kept, key=lambda one: one[0])
                kept.remove(first)
                self.assertEqual([agenda.take() for agenda in agendas], [first, first])
            else:
                kept = sorted(kept, key=lambda one: one[0])[:chance.randrange(8)]
                for agenda in agendas:
                    agenda.stand(kept)
            meant = sorted(kept, key=lambda one: one[0])
            for agenda in agendas:
                self.assertEqual(agenda.in_order(), meant)
                self.assertEqual(agenda.first(), meant[0][0] if meant else None)


if __name__ == "__main__":
    unittest.main()
