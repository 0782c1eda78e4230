"""Promises [2], [11] and [12]: goods."""

import random
import unittest

from rerunyard.goods import Goods
from rerunyard.reader import read

TEXT = "tool saw 3\nstore bin 2 5\ntool axe 1\nstore box 0 9\ntool fork 2"


def goods(text=TEXT):
    return Goods(read(text))


class Tools(unittest.TestCase):
    def test_at_first(self):
        one = goods()
        self.assertEqual(one.tools(), [(3, [], []), (1, [], []), (2, [], [])])
        self.assertEqual(one.stores(), [(2, [], []), (0, [], [])])

    def test_no_tools_and_no_stores(self):
        one = goods("row r 1")
        self.assertEqual((one.tools(), one.stores(), one.leave(1)), ([], [], []))

    def test_had_at_once(self):
        one = goods()
        self.assertIs(one.take(7, "saw", 2), True)
        self.assertIs(one.take(4, "saw", 1), True)
        self.assertEqual(one.tools()[0], (0, [(4, 1), (7, 2)], []))

    def test_once_more_at_once(self):
        one = goods()
        one.take(7, "saw", 1)
        self.assertIs(one.take(7, "saw", 2), True)
        self.assertEqual(one.tools()[0], (0, [(7, 3)], []))

    def test_not_at_once_where_too_few_are_free(self):
        one = goods()
        one.take(1, "saw", 2)
        self.assertIs(one.take(2, "saw", 2), False)
        self.assertEqual(one.tools()[0], (1, [(1, 2)], [(2, 2)]))

    def test_not_at_once_where_others_wait(self):
        one = goods()
        one.take(1, "saw", 2)
        one.take(2, "saw", 2)
        self.assertIs(one.take(3, "saw", 1), False)
        self.assertEqual(one.tools()[0], (1, [(1, 2)], [(2, 2), (3, 1)]))

    def test_more_than_there_is(self):
        one = goods()
        self.assertIs(one.take(1, "saw", 4), False)
        self.assertIs(one.take(2, "saw", 1), False)
        self.assertEqual(one.tools()[0], (3, [], [(1, 4), (2, 1)]))
        self.assertEqual(one.give(3, "saw", 1), (0, []))
        self.assertEqual(one.tools()[0], (3, [], [(1, 4), (2, 1)]))

    def test_given_back(self):
        one = goods()
        one.take(1, "saw", 3)
        self.assertEqual(one.give(1, "saw", 1), (1, []))
        self.assertEqual(one.tools()[0], (1, [(1, 2)], []))
        self.assertEqual(one.give(1, "saw", 2), (2, []))
        self.assertEqual(one.tools()[0], (3, [], []))

    def test_more_given_back_than_is_had(self):
        one = goods()
        one.take(1, "saw", 2)
        one.take(2, "saw", 1)
        self.assertEqual(one.give(1, "saw", 3), (2, []))
        self.assertEqual(one.give(1, "saw", 3), (0, []))
        self.assertEqual(one.give(9, "saw", 1), (0, []))
        self.assertEqual(one.tools()[0], (2, [(2, 1)], []))

    def test_what_is_had_of_another_tool_is_not_given(self):
        one = goods()
        one.take(1, "axe", 1)
        self.assertEqual(one.give(1, "saw", 1), (0, []))
        self.assertEqual(one.tools()[1], (0, [(1, 1)], []))

    def test_the_queue_is_served_in_order(self):
        one = goods()
        one.take(1, "saw", 3)
        for hand, n in [(5, 1), (2, 1), (4, 2), (3, 1)]:
            self.assertIs(one.take(hand, "saw", n), False)
        self.assertEqual(one.give(1, "saw", 3), (3, [(5, "takes", 1), (2, "takes", 1)]))
        self.assertEqual(one.tools()[0], (1, [(2, 1), (5, 1)], [(4, 2), (3, 1)]))
        self.assertEqual(one.give(5, "saw", 1), (1, [(4, "takes", 2)]))
        self.assertEqual(one.give(2, "saw", 1), (1, [(3, "takes", 1)]))
        self.assertEqual(one.tools()[0], (0, [(3, 1), (4, 2)], []))

    def test_a_served_hand_that_has_some_already(self):
        one = goods()
        one.take(1, "saw", 1)
        one.take(2, "saw", 2)
        one.take(1, "saw", 2)
        self.assertEqual(one.give(2, "saw", 2), (2, [(1, "takes", 2)]))
        self.assertEqual(one.tools()[0], (0, [(1, 3)], []))

    def test_a_hand_that_serves_itself(self):
        one = goods()
        one.take(1, "saw", 2)
        one.take(1, "saw", 3)
        self.assertEqual(one.give(1, "saw", 2), (2, [(1, "takes", 3)]))
        self.assertEqual(one.tools()[0], (0, [(1, 3)], []))

    def test_a_hand_that_stands_more_than_once(self):
        one = goods()
        one.take(1, "saw", 3)
        one.take(2, "saw", 1)
        one.take(3, "saw", 1)
        one.take(2, "saw", 2)
        self.assertEqual(one.tools()[0][2], [(2, 1), (3, 1), (2, 2)])
        self.assertEqual(one.give(1, "saw", 3), (3, [(2, "takes", 1), (3, "takes", 1)]))
        self.assertEqual(one.give(3, "saw", 1), (1, [(2, "takes", 2)]))
        self.assertEqual(one.tools()[0], (0, [(2, 3)], []))


class Stores(unittest.TestCase):
    def test_at_once(self):
        one = goods()
        self.assertEqual(one.put(1, "bin", 3), (True, []))
        self.assertEqual(one.stores()[0], (5, [], []))
        self.assertEqual(one.get(1, "bin", 5), (True, []))
        self.assertEqual(one.stores()[0], (0, [], []))
        self.assertIs(one.put(1, "bin", 1)[0], True)
        self.assertIs(one.get(1, "bin", 1)[0], True)

    def test_not_at_once(self):
        one = goods()
        self.assertEqual(one.put(1, "bin", 4), (False, []))
        self.assertEqual(one.get(2, "bin", 3), (False, []))
        self.assertEqual(one.stores()[0], (2, [(2, 3)], [(1, 4)]))
        self.assertIs(one.put(1, "bin", 1)[0], False)
        self.assertIs(one.get(2, "bin", 1)[0], False)
        self.assertEqual(one.stores()[0], (2, [(2, 3), (2, 1)], [(1, 4), (1, 1)]))

    def test_a_put_where_only_getters_wait_and_a_get_where_only_putters_wait(self):
        one = goods()
        one.get(1, "bin", 5)
        self.assertEqual(one.put(2, "bin", 2), (True, []))
        self.assertEqual(one.stores()[0], (4, [(1, 5)], []))
        other = goods()
        other.put(1, "bin", 5)
        self.assertEqual(other.get(2, "bin", 1), (True, []))
        self.assertEqual(other.stores()[0], (1, [], [(1, 5)]))

    def test_a_put_serves_getters_in_order(self):
        one = goods()
        for hand, n in [(5, 3), (4, 1), (3, 2)]:
            one.get(hand, "bin", n)
        self.assertEqual(one.put(1, "bin", 2), (True, [(5, "gets", 3), (4, "gets", 1)]))
        self.assertEqual(one.stores()[0], (0, [(3, 2)], []))

    def test_a_get_serves_putters_in_order(self):
        one = goods()
        for hand, n in [(5, 4), (4, 1), (3, 2)]:
            one.put(hand, "bin", n)
        self.assertEqual(one.get(1, "bin", 2), (True, [(5, "puts", 4), (4, "puts", 1)]))
        self.assertEqual(one.stores()[0], (5, [], [(3, 2)]))

    def test_by_turns_behind_a_put(self):
        one = goods()
        one.get(1, "bin", 4)
        one.get(2, "bin", 3)
        one.put(3, "bin", 4)
        one.get(4, "bin", 1)
        self.assertEqual(one.put(5, "bin", 1), (False, []))
        self.assertEqual(one.bring("bin", 2), (2, [(1, "gets", 4), (3, "puts", 4), (2, "gets", 3), (4, "gets", 1),
                                                   (5, "puts", 1)]))
        self.assertEqual(one.stores()[0], (1, [], []))

    def test_by_turns_behind_a_put_that_was_done_at_once(self):
        one = goods("store bin 0 4")
        one.get(1, "bin", 2)
        one.get(2, "bin", 3)
        one.get(3, "bin", 1)
        self.assertEqual(one.put(4, "bin", 4), (True, [(1, "gets", 2)]))
        self.assertEqual(one.put(5, "bin", 3), (False, []))
        self.assertEqual(one.put(6, "bin", 1), (False, []))
        self.assertEqual(one.stores()[0], (2, [(2, 3), (3, 1)], [(5, 3), (6, 1)]))
        self.assertEqual(one.bring("bin", 1), (1, [(2, "gets", 3), (5, "puts", 3), (3, "gets", 1), (6, "puts", 1)]))
        self.assertEqual(one.stores()[0], (3, [], []))

    def test_by_turns_behind_a_get(self):
        one = goods("store bin 4 4")
        one.put(1, "bin", 3)
        one.put(2, "bin", 2)
        self.assertEqual(one.get(3, "bin", 3), (True, [(1, "puts", 3)]))
        self.assertEqual(one.stores()[0], (4, [], [(2, 2)]))

    def test_getters_ahead_of_putters(self):
        one = goods("store bin 1 4")
        one.stand([], [(1, [(1, 2), (2, 1)], [(3, 3)])])
        self.assertEqual(one.bring("bin", 2), (2, [(1, "gets", 2), (2, "gets", 1), (3, "puts", 3)]))

    def test_one_store_serves_none_of_another(self):
        one = goods()
        one.get(1, "box", 1)
        self.assertEqual(one.put(2, "bin", 3), (True, []))
        self.assertEqual(one.stores(), [(5, [], []), (0, [(1, 1)], [])])


class Bringing(unittest.TestCase):
    def test_as_much_as_there_is_room_for(self):
        one = goods()
        self.assertEqual(one.bring("bin", 2), (2, []))
        self.assertEqual(one.bring("bin", 2), (1, []))
        self.assertEqual(one.bring("bin", 999), (0, []))
        self.assertEqual(one.stores()[0], (5, [], []))

    def test_whatever_putters_wait(self):
        one = goods()
        one.put(1, "bin", 5)
        self.assertEqual(one.bring("bin", 1), (1, []))
        self.assertEqual(one.stores()[0], (3, [], [(1, 5)]))

    def test_getters_are_served_and_then_putters(self):
        one = goods()
        one.get(1, "bin", 5)
        one.put(2, "bin", 5)
        self.assertEqual(one.bring("bin", 7), (3, [(1, "gets", 5), (2, "puts", 5)]))
        self.assertEqual(one.stores()[0], (5, [], []))

    def test_of_0_put_serves_too(self):
        one = goods("store bin 3 3")
        one.stand([], [(3, [(1, 2)], [(2, 1)])])
        self.assertEqual(one.bring("bin", 5), (0, [(1, "gets", 2), (2, "puts", 1)]))
        self.assertEqual(one.stores()[0], (2, [], []))


class Leaving(unittest.TestCase):
    def test_tool_by_tool_in_the_programs_order(self):
        one = goods()
        one.take(1, "fork", 1)
        one.take(1, "saw", 3)
        one.take(2, "axe", 1)
        one.take(3, "saw", 2)
        one.take(4, "saw", 1)
        one.take(5, "fork", 2)
        self.assertEqual(one.leave(1), [("saw", 3, [(3, "takes", 2), (4, "takes", 1)]), ("fork", 1, [(5, "takes", 2)])])
        self.assertEqual(one.tools(), [(0, [(3, 2), (4, 1)], []), (0, [(2, 1)], []), (0, [(5, 2)], [])])
        self.assertEqual(one.leave(1), [])

    def test_nothing_is_had(self):
        one = goods()
        one.take(1, "saw", 3)
        one.give(1, "saw", 3)
        self.assertEqual(one.leave(1), [])
        self.assertEqual(one.leave(2), [])

    def test_it_is_taken_out_of_no_queue(self):
        one = goods()
        one.take(1, "saw", 3)
        one.take(1, "saw", 2)
        one.get(1, "box", 1)
        one.put(1, "bin", 9)
        self.assertEqual(one.leave(1), [("saw", 3, [(1, "takes", 2)])])
        self.assertEqual(one.tools()[0], (1, [(1, 2)], []))
        self.assertEqual(one.stores(), [(2, [], [(1, 9)]), (0, [(1, 1)], [])])
        one.take(1, "saw", 2)
        one.take(2, "axe", 1)
        one.take(1, "axe", 1)
        self.assertEqual(one.leave(2), [("axe", 1, [(1, "takes", 1)])])
        self.assertEqual(one.tools()[0], (1, [(1, 2)], [(1, 2)]))


class Standing(unittest.TestCase):
    def had(self):
        one = goods()
        one.take(1, "saw", 3)
        one.take(2, "saw", 2)
        one.take(2, "axe", 1)
        one.get(4, "box", 3)
        one.put(5, "bin", 4)
        return one

    def test_with_lists_and_with_tuples_within(self):
        lists = ([(1, [(2, 1), (3, 1)], [(4, 2)]), (1, [], []), (0, [(9, 2)], [(1, 1)])],
                 [(1, [(5, 2)], [(6, 5)]), (9, [], [])])
        tuples = ([(1, ((2, 1), (3, 1)), ((4, 2),)), (1, (), ()), (0, ((9, 2),), ((1, 1),))],
                  [(1, ((5, 2),), ((6, 5),)), (9, (), ())])
        frozen = (tuple(tuples[0]), tuple(tuples[1]))
        for tools, stores in (lists, tuples, frozen):
            one = self.had()
            one.stand(tools, stores)
            self.assertEqual((one.tools(), one.stores()), lists)
            self.assertEqual(one.give(2, "saw", 2), (1, [(4, "takes", 2)]))
            self.assertEqual(one.leave(9), [("fork", 2, [(1, "takes", 1)])])
            self.assertEqual(one.bring("bin", 1), (1, [(5, "gets", 2), (6, "puts", 5)]))
            self.assertEqual(one.put(1, "box", 1), (False, []))
            self.assertEqual(one.leave(1), [("fork", 1, [])])

    def test_a_told_standing_goes_on_alike(self):
        one, other = self.had(), goods()
        other.stand(one.tools(), one.stores())
        for each in (one, other):
            self.assertEqual(each.leave(1), [("saw", 3, [(2, "takes", 2)])])
            self.assertEqual(each.bring("box", 4), (4, [(4, "gets", 3)]))
            self.assertEqual(each.get(1, "bin", 1), (True, [(5, "puts", 4)]))
        self.assertEqual((one.tools(), one.stores()), (other.tools(), other.stores()))

    def test_lists_handed_in_are_changed_behind(self):
        tools = [(0, [(1, 3)], [(2, 1)]), (1, [], []), (2, [], [])]
        stores = [(0, [(3, 1)], []), (9, [], [(4, 1)])]
        one = goods()
        one.stand(tools, stores)
        tools[0][1].clear()
        tools[0][2].append((8, 8))
        stores[0][1].clear()
        stores[1][2].append((8, 8))
        tools.clear()
        stores.clear()
        self.assertEqual(one.tools(), [(0, [(1, 3)], [(2, 1)]), (1, [], []), (2, [], [])])
        self.assertEqual(one.stores(), [(0, [(3, 1)], []), (9, [], [(4, 1)])])

    def test_lists_handed_in_stay(self):
        tools = [(0, [(1, 3)], [(2, 1)]), (1, [], []), (2, [], [])]
        stores = [(0, [(3, 1)], []), (9, [], [(4, 1)])]
        one = goods()
        one.stand(tools, stores)
        one.give(1, "saw", 3)
        one.bring("bin", 4)
        one.get(5, "box", 9)
        self.assertEqual(tools, [(0, [(1, 3)], [(2, 1)]), (1, [], []), (2, [], [])])
        self.assertEqual(stores, [(0, [(3, 1)], []), (9, [], [(4, 1)])])

    def test_told_lists_changed_behind(self):
        one = self.had()
        meant = ([(0, [(1, 3)], [(2, 2)]), (0, [(2, 1)], []), (2, [], [])], [(2, [], [(5, 4)]), (0, [(4, 3)], [])])
        tools, stores = one.tools(), one.stores()
        self.assertEqual((tools, stores), meant)
        for told in tools + stores:
            told[1].clear()
            told[2].clear()
        tools.clear()
        stores.clear()
        self.assertEqual((one.tools(), one.stores()), meant)
        given, served = one.give(1, "saw", 3)
        served.clear()
        had, none = one.put(1, "bin", 9)
        none.append(1)
        self.assertEqual(one.put(1, "bin", 9), (False, []))
        left = one.leave(2)
        left[0][2].append(1)
        self.assertEqual(one.tools()[:2], [(3, [], []), (1, [], [])])

    def test_no_two_told_lists_are_one(self):
        one = goods()
        lists = [part for told in one.tools() + one.stores() for part in told[1:]]
        self.assertEqual(len({id(part) for part in lists}), len(lists))

    def test_the_program_changed_behind(self):
        program = read(TEXT)
        one = Goods(program)
        for part in program:
            part.clear()
        self.assertEqual(one.tools(), [(3, [], []), (1, [], []), (2, [], [])])
        self.assertIs(one.take(1, "axe", 1), True)
        self.assertEqual(one.bring("box", 99), (9, []))
        self.assertEqual(one.leave(1), [("axe", 1, [])])

    def test_the_program_stays(self):
        program = read(TEXT)
        one = Goods(program)
        one.take(1, "axe", 1)
        one.bring("box", 99)
        self.assertEqual(program, read(TEXT))
        self.assertEqual(Goods(program).tools(), goods().tools())


class Drawn(unittest.TestCase):
    def test_what_holds_behind_each_deed(self):
        for seed in range(40):
            chance = random.Random(seed)
            one = goods()
            for count in range(80):
                hand, n = chance.randrange(1, 7), chance.randrange(1, 5)
                tool, store = chance.choice(["saw", "axe", "fork"]), chance.choice(["bin", "box"])
                chance.choice([lambda: one.take(hand, tool, n), lambda: one.give(hand, tool, n),
                               lambda: one.put(hand, store, n), lambda: one.get(hand, store, n),
                               lambda: one.bring(store, n), lambda: one.leave(hand)])()
                for count, (free, holders, queue) in zip((3, 1, 2), one.tools()):
                    self.assertEqual(free + sum(n for hand, n in holders), count)
                    self.assertEqual(holders, sorted(holders))
                    self.assertTrue(all(n > 0 for hand, n in holders))
                    self.assertTrue(not queue or queue[0][1] > free)
                for most, (level, getters, putters) in zip((5, 9), one.stores()):
                    self.assertTrue(0 <= level <= most)
                    self.assertTrue(not getters or getters[0][1] > level)
                    self.assertTrue(not putters or putters[0][1] + level > most)


if __name__ == "__main__":
    unittest.main()
