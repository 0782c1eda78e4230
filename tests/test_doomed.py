"""Promises [2], [3], [23] and [24]: the doomed, and why they are."""

import copy
import random
import unittest

from helper import drawn_outer, drawn_program, drawn_thing, program, start, went_until
from rerunyard.agendas import ListAgenda
from rerunyard.doomed import chain, doomed, why
from rerunyard.plain import PlainYard


def view(*tools):
    """A view of which only the tools are as told."""
    return ("any", None, list(tools), 7, {}, "thing")


class Doomed(unittest.TestCase):
    def told(self, one, **meant):
        before = copy.deepcopy(one)
        self.assertEqual(doomed(one), sorted(int(name[1:]) for name in meant))
        for name, (reason, links) in meant.items():
            self.assertEqual(why(one, int(name[1:])), reason)
            self.assertEqual(chain(one, int(name[1:])), links)
        self.assertEqual(one, before)

    def test_no_tools(self):
        self.told(view())
        self.assertEqual(doomed((0, [], [], [], [], [])), [])

    def test_no_queues(self):
        self.told(view((3, [], []), (0, [(1, 1), (2, 4)], [])))

    def test_one_that_waits_for_another_that_goes_on(self):
        self.told(view((0, [(1, 2)], [(2, 2), (3, 1)])))
        self.told(view((1, [(1, 2)], [(2, 3)])))

    def test_more_than_there_is_and_those_behind_it(self):
        self.told(view((1, [(1, 2)], [(5, 3), (2, 4), (4, 1), (3, 9)])),
                  h2=(("more", 0, 4), [2]), h3=(("more", 0, 9), [3]), h4=(("by", 0, 2), [4, 2]))
        self.told(view((0, [], []), (2, [], [(7, 3), (6, 1), (5, 1)])),
                  h7=(("more", 1, 3), [7]), h6=(("by", 1, 7), [6, 7]), h5=(("by", 1, 6), [5, 6, 7]))

    def test_two_that_wait_for_one_another(self):
        self.told(view((0, [(1, 1)], [(2, 1)]), (0, [(2, 1)], [(1, 1)])),
                  h1=(("by", 1, 2), [1, 2, 1]), h2=(("by", 0, 1), [2, 1, 2]))

    def test_a_ring_of_three_and_one_behind(self):
        self.told(view((0, [(3, 1)], [(1, 1)]), (0, [(1, 1)], [(2, 1), (9, 1)]), (0, [(2, 1)], [(3, 1)])),
                  h1=(("by", 0, 3), [1, 3, 2, 1]), h2=(("by", 1, 1), [2, 1, 3, 2]), h3=(("by", 2, 2), [3, 2, 1, 3]),
                  h9=(("by", 1, 1), [9, 1, 3, 2, 1]))

    def test_a_chain_that_comes_round_behind_its_beginning(self):
        self.told(view((0, [(1, 1)], [(2, 1), (4, 1)]), (0, [(2, 1)], [(1, 1)]), (0, [(4, 1)], [(3, 1)])),
                  h1=(("by", 1, 2), [1, 2, 1]), h2=(("by", 0, 1), [2, 1, 2]), h4=(("by", 0, 1), [4, 1, 2, 1]),
                  h3=(("by", 2, 4), [3, 4, 1, 2, 1]))

    def test_a_hand_that_awaits_a_tool_of_which_it_holds_pieces(self):
        self.told(view((1, [(1, 1)], [(1, 2)])), h1=(("by", 0, 1), [1, 1]))
        self.told(view((0, [(1, 1), (2, 1)], [(1, 1)])))
        self.told(view((0, [(1, 1), (2, 1)], [(1, 2), (3, 1)])),
                  h1=(("by", 0, 1), [1, 1]), h3=(("by", 0, 1), [3, 1, 1]))

    def test_one_that_is_freed_only_when_another_one_is(self):
        self.told(view((0, [(1, 1)], [(2, 1)]), (0, [(3, 1)], [(1, 1)])))
        self.told(view((0, [(3, 1)], [(1, 1)]), (0, [(1, 1)], [(2, 1)])))
        self.told(view((0, [(4, 1)], [(3, 1)]), (0, [(3, 1)], [(2, 1)]), (0, [(2, 1)], [(1, 1)]),
                       (1, [(1, 1)], [(4, 1)])))

    def test_some_freed_and_some_not(self):
        self.told(view((0, [(1, 1), (2, 1)], [(3, 1), (4, 2)]), (0, [(3, 1), (4, 1)], [(1, 1), (2, 2)])),
                  h1=(("by", 1, 3), [1, 3, 1]), h2=(("by", 1, 1), [2, 1, 3, 1]), h3=(("by", 0, 1), [3, 1, 3]),
                  h4=(("by", 0, 1), [4, 1, 3, 1]))
        self.told(view((0, [(1, 1), (2, 1)], [(3, 1), (4, 2)]), (0, [(3, 1), (4, 1), (5, 1)], [(1, 1), (2, 3)])),
                  h2=(("by", 1, 4), [2, 4, 2]), h4=(("by", 0, 2), [4, 2, 4]))

    def test_the_least_of_several(self):
        self.told(view((0, [(3, 1), (5, 1), (8, 1)], [(9, 4), (2, 1), (7, 1)]), (0, [(1, 1)], []),
                       (1, [], [(3, 2), (5, 1)])),
                  h9=(("more", 0, 4), [9]), h2=(("by", 0, 3), [2, 3]), h7=(("by", 0, 2), [7, 2, 3]),
                  h3=(("more", 2, 2), [3]), h5=(("by", 2, 3), [5, 3]))

    def test_more_goes_ahead_of_by(self):
        self.told(view((0, [(1, 1)], [(2, 1), (1, 2)]), (0, [(2, 1)], [])), h1=(("more", 0, 2), [1]),
                  h2=(("by", 0, 1), [2, 1]))

    def test_told_lists_changed_behind(self):
        one = view((0, [(1, 1)], [(2, 1)]), (0, [(2, 1)], [(1, 1)]))
        doomed(one).clear()
        chain(one, 1).clear()
        self.assertEqual((doomed(one), chain(one, 1)), ([1, 2], [1, 2, 1]))

    def test_views_of_runs(self):
        one = program("tool a 1", "tool b 1", "hand f", "take a 1", "wait 1", "take b 1", "end",
                      "hand g", "take b 1", "wait 1", "take a 1", "end")
        yard = PlainYard(one, [start(0, "f"), start(0, "g"), start(3, "f")], ListAgenda())
        self.assertEqual(doomed(went_until(yard, 0).view()), [])
        self.assertEqual(doomed(went_until(yard, 1).view()), [1, 2])
        last = went_until(yard, 9).view()
        self.assertEqual((doomed(last), chain(last, 3)), ([1, 2, 3], [3, 1, 2, 1]))


class Never(unittest.TestCase):
    def test_doomed_hands_never_go_on_whatever_comes(self):
        found = 0
        for seed in range(900):
            chance = random.Random(seed)
            one = drawn_program(chance)
            yard = PlainYard(one, drawn_outer(chance, one), ListAgenda())
            went_until(yard, 6)
            lost = doomed(yard.view())
            if yard.end() is None and lost:
                found += 1
                self.never(one, yard, lost, chance)
        self.assertGreater(found, 50)

    def never(self, one, yard, lost, chance):
        """Goes on with other things from without than those that would have come."""
        rows = {hand[0]: hand for hand in yard.view()[1] if hand[0] in lost}
        standing = yard.kept()
        for count in range(3):
            things = [drawn_thing(chance, one, 9) for k in range(9)]
            outer = sorted([(7 + thing[0],) + thing[1:] for thing in things], key=lambda thing: thing[0])
            other = PlainYard(one, outer, ListAgenda())
            other.stand(standing[:-1] + (len(outer),))
            for step in range(150):
                other.step()
                self.assertLessEqual(set(lost), set(doomed(other.view())))
            self.assertEqual([row for row in other.log() if row[1] in lost], [])
            self.assertEqual({hand[0]: hand for hand in other.view()[1] if hand[0] in lost}, rows)

    def test_those_that_are_freed_can_go_on(self):
        """Where all hands that hold pieces and are not doomed end, and all that are served end, none is left but
        the doomed."""
        for seed in range(400):
            chance = random.Random(seed)
            one = drawn_program(chance)
            yard = went_until(PlainYard(one, drawn_outer(chance, one), ListAgenda()), chance.randrange(9))
            goods, lost = yard.goods, doomed(yard.view())
            waiting = {hand for tool in goods.tools() for hand, n in tool[2]}
            leaving = [hand for tool in goods.tools() for hand, n in tool[1] if hand not in waiting]
            while leaving:
                for tool, n, served in goods.leave(leaving.pop()):
                    leaving += [hand for hand, word, n in served]
            self.assertEqual(sorted({hand for tool in goods.tools() for hand, n in tool[2]}), lost)


if __name__ == "__main__":
    unittest.main()
