"""Promises [2] and [13] to [19], as far as they tell of what both kinds of run have in common."""

import copy
import unittest

from rerunyard.agendas import HeapAgenda, ListAgenda
from rerunyard.reader import read
from rerunyard.yards import Yard

TEXT = "tool saw 3\nstore bin 2 5\nrow r 4 5\nhand idle\nend\nhand two b a\nend"


class Waiting(Yard):
    """Hands that wait for as many moments as their name a tells, time and again."""

    def go_on(self, hand):
        self.enter_statement(hand, 6)
        self.deed(hand, "wait", (), [hand.known["a"]])


def yard(*outer, kind=Yard, agenda=ListAgenda):
    return kind(read(TEXT), list(outer), agenda())


def start(moment, name="idle", *numbers):
    return (moment, "start", name, list(numbers))


def bring(moment, n):
    return (moment, "bring", "bin", n)


def steps(one, count):
    for step in range(count):
        one.step()
    return one


class Happenings(unittest.TestCase):
    def test_nothing_happened_yet(self):
        one = yard(start(3))
        self.assertEqual((one.moment(), one.log(), one.end(), one.next_moment()), (0, [], None, 3))
        self.assertEqual(one.view(), (0, [], [(3, [], [])], [(2, [], [])], [0], []))

    def test_nothing_is_left(self):
        one = yard()
        self.assertIsNone(one.next_moment())
        one.step()
        self.assertEqual((one.moment(), one.log(), one.end(), one.next_moment()), (0, [], None, None))

    def test_a_start_begins_a_hand_and_puts_it_on_the_agenda(self):
        one = steps(yard(start(3, "two", 7, -8)), 1)
        self.assertEqual(one.log(), [(3, 1, "begins", "two")])
        self.assertEqual(one.moment(), 3)
        self.assertEqual(one.next_moment(), 3)
        self.assertEqual(one.view(), (3, [(1, "two", 0, [("a", -8), ("b", 7)])], [(3, [], [])], [(2, [], [])], [0],
                                      [(3, 1)]))
        one.step()
        self.assertEqual(one.log(), [(3, 1, "begins", "two"), (3, 1, "ends")])
        self.assertEqual(one.view(), (3, [], [(3, [], [])], [(2, [], [])], [0], []))
        self.assertIsNone(one.next_moment())

    def test_from_without_ahead_of_the_agenda_at_one_moment(self):
        one = steps(yard(start(3), bring(3, 1), start(3), bring(4, 9)), 6)
        self.assertEqual(one.log(), [(3, 1, "begins", "idle"), (3, 0, "brings", "bin", 1), (3, 2, "begins", "idle"),
                                     (3, 1, "ends"), (3, 2, "ends"), (4, 0, "brings", "bin", 2)])

    def test_the_agenda_where_it_is_earlier(self):
        one = steps(yard(start(0, "two", 0, 2), bring(3, 1), bring(4, 1), kind=Waiting), 6)
        self.assertEqual(one.log(), [(0, 1, "begins", "two"), (0, 1, "waits", 2), (2, 1, "waits", 2),
                                     (3, 0, "brings", "bin", 1), (4, 0, "brings", "bin", 1), (4, 1, "waits", 2)])

    def test_bringings_of_0_and_those_who_are_served(self):
        one = yard(bring(1, 3), bring(1, 4), bring(2, 1))
        steps(one, 2)
        self.assertEqual(one.log(), [(1, 0, "brings", "bin", 3), (1, 0, "brings", "bin", 0)])
        one.goods.get(1, "bin", 5)
        one.goods.get(8, "bin", 1)
        one.step()
        self.assertEqual(one.log()[2:], [(2, 0, "brings", "bin", 1), (2, 8, "gets", "bin", 1)])
        self.assertEqual(one.view()[5], [(2, 8)])


class Stops(unittest.TestCase):
    def test_a_60th_and_a_61st_hand(self):
        one = steps(yard(*[start(k, "two", 0, 10 ** 6) for k in range(61)], kind=Waiting), 120)
        self.assertEqual((one.end(), one.next_moment(), len(one.view()[1])), (None, 60, 60))
        log = one.log()
        one.step()
        self.assertEqual((one.end(), one.next_moment(), one.log()), (("many",), None, log))
        self.assertEqual(len(one.view()[1]), 60)
        steps(one, 3)
        self.assertEqual((one.end(), one.next_moment(), one.log()), (("many",), None, log))

    def test_hands_that_are_no_more_are_counted(self):
        one = steps(yard(*[start(k) for k in range(61)]), 120)
        self.assertEqual((one.end(), one.next_moment(), one.view()[1]), (None, 60, []))
        one.step()
        self.assertEqual(one.end(), ("many",))

    def test_a_500th_and_a_501st_happening_at_one_moment(self):
        one = yard(bring(1, 1), start(2, "two", 0, 0), kind=Waiting)
        steps(one, 501)
        self.assertEqual((one.end(), one.next_moment(), one.moment()), (None, 2, 2))
        view, log = one.view(), one.log()
        self.assertEqual(len(log), 501)
        one.step()
        self.assertEqual((one.end(), one.next_moment(), one.moment()), (("long",), None, 2))
        self.assertEqual((one.view(), one.log()), (view, log))
        steps(one, 2)
        self.assertEqual((one.view(), one.log(), one.end()), (view, log, ("long",)))

    def test_happenings_at_moment_0_are_counted(self):
        one = steps(yard(start(0, "two", 0, 0), kind=Waiting), 500)
        self.assertEqual((one.end(), one.next_moment()), (None, 0))
        self.assertEqual(steps(one, 1).end(), ("long",))

    def test_each_moment_is_counted_by_itself(self):
        one = steps(yard(start(0, "two", 0, 1), kind=Waiting), 700)
        self.assertEqual((one.end(), one.moment()), (None, 698))


class Standings(unittest.TestCase):
    def outer(self):
        return [start(0, "two", 5, 3), bring(2, 9), start(4, "two", 1, 4), start(6, "two", 9, 2), bring(9, 1)]

    def test_a_kept_standing_is_of_plain_things(self):
        one = steps(yard(*self.outer(), kind=Waiting), 6)
        self.plain(one.kept())
        self.plain(yard().kept())

    def plain(self, thing):
        self.assertIn(thing.__class__, (tuple, int, str, type(None)))
        if isinstance(thing, tuple):
            for part in thing:
                self.plain(part)

    def test_taken_up_it_goes_on_as_it_went(self):
        for kind in (Yard, Waiting):
            for agenda in (ListAgenda, HeapAgenda):
                for count in range(0, 14):
                    self.taken_up(kind, agenda, count)

    def taken_up(self, kind, agenda, count):
        one = steps(yard(*self.outer(), kind=kind), count)
        following = one.next_moment()
        if following is not None and one.log() and following == one.moment():
            return
        view, log = one.view(), one.log()
        kept = one.kept()
        self.assertEqual((one.view(), one.log(), one.end()), (view, log, None))
        other = steps(yard(*self.outer(), kind=kind, agenda=agenda), 3)
        other.stand(kept)
        self.assertEqual((other.log(), other.end(), other.next_moment()), ([], None, following))
        self.assertEqual((other.kept(), other.view()[1:]), (kept, view[1:]))
        for step in range(9):
            one.step()
            other.step()
            self.assertEqual(one.view()[1:], other.view()[1:])
            self.assertEqual((one.log()[len(log):], one.next_moment()), (other.log(), other.next_moment()))

    def test_alike_but_for_the_moment(self):
        one = steps(yard(bring(1, 3), bring(2, 1), bring(7, 1)), 2)
        other = steps(yard(bring(2, 1), bring(3, 2), bring(7, 1)), 2)
        self.assertNotEqual(one.view(), other.view())
        self.assertEqual(one.kept(), other.kept())

    def test_not_alike_where_more_hands_have_begun_to_be(self):
        one, other = steps(yard(start(1)), 2), steps(yard(start(1), start(1)), 4)
        self.assertEqual(one.view(), other.view())
        self.assertNotEqual(one.kept(), other.kept())

    def test_not_alike_where_more_is_left_from_without(self):
        one, other = steps(yard(bring(1, 1), bring(5, 1)), 1), steps(yard(bring(1, 1)), 1)
        self.assertEqual(one.view(), other.view())
        self.assertNotEqual(one.kept(), other.kept())

    def test_a_stopped_run_is_taken_up_without_a_stop(self):
        one = yard(start(0, "two", 0, 0), kind=Waiting)
        kept = one.kept()
        steps(one, 501)
        self.assertEqual(one.end(), ("long",))
        one.stand(kept)
        self.assertEqual((one.end(), one.log(), one.next_moment()), (None, [], 0))
        steps(one, 500)
        self.assertEqual((one.end(), one.next_moment()), (None, 0))
        self.assertEqual(steps(one, 1).end(), ("long",))


class Own(unittest.TestCase):
    def test_told_lists_changed_behind(self):
        one = steps(yard(start(0, "two", 5, 3), start(0, "two", 5, 3), bring(9, 1), kind=Waiting), 4)
        view, log = copy.deepcopy(one.view()), one.log()
        told = one.view()
        for hand in told[1]:
            hand[3].append(1)
        for good in told[2] + told[3]:
            good[1].append(1)
            good[2].append(1)
        for part in told[1:]:
            part.clear()
        one.log().clear()
        self.assertEqual((one.view(), one.log()), (view, log))

    def test_lists_handed_in_changed_behind(self):
        program, outer = read(TEXT), [start(0, "two", 5, 3), bring(9, 1)]
        one = Waiting(program, outer, ListAgenda())
        outer[0][3].clear()
        outer.clear()
        for hand in program[3]:
            hand[1].clear()
        program[2][0][1].clear()
        for part in program:
            part.clear()
        steps(one, 2)
        self.assertEqual(one.view(), (0, [(1, "two", 6, [("a", 3), ("b", 5)])], [(3, [], [])], [(2, [], [])], [0],
                                      [(3, 1)]))
        self.assertEqual(one.draw("r"), 4)

    def test_what_was_handed_in_stays(self):
        program, outer = read(TEXT), [start(0, "two", 5, 3), bring(9, 1)]
        steps(Waiting(program, outer, ListAgenda()), 9)
        self.assertEqual((program, outer), (read(TEXT), [start(0, "two", 5, 3), bring(9, 1)]))


if __name__ == "__main__":
    unittest.main()
