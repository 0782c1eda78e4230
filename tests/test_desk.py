"""Promises [2], [27] and [28]: the desk."""

import random
import unittest

from helper import bring, drawn_outer, drawn_text, start
from rerunyard import errors
from rerunyard.agendas import HeapAgenda
from rerunyard.desk import Desk
from rerunyard.doomed import doomed
from rerunyard.errors import NoForm, NoMeasure, NoneYet, NoPlace, NoRow, NoThing, Open, TooLong, Twice
from rerunyard.logs import shown_log
from rerunyard.machine import CodeYard
from rerunyard.reader import read
from rerunyard.runs import kept_run, rerun, run_until
from rerunyard.sums import goods_at, used

TEXT = "\n".join(["tool saw 2", "store bin 1 5", "tool axe 1", "row r 3 4", "hand h n", "take saw n", "wait 3",
                  "put bin n", "end", "hand g", "get bin 4", "say done now", "end", "hand k a b c", "end"])
NEED_A_PROGRAM = ["out 1 start h 1", "out 1 bring bin 1", "undo 1", "run 5"]
NEED_A_RUN = ["again", "log", "free saw 1", "level bin 1", "used saw 1", "doomed"]


def desk(text=TEXT, *rows):
    one = Desk()
    for row in text.split("\n"):
        assert one.say("row " + row) == "ok"
    assert one.say("read") == "sound"
    for row in rows:
        one.say(row)
    return one


def out_of(thing):
    return "out " + " ".join(str(part) for part in thing[:3] + tuple(thing[3] if thing[1] == "start" else [thing[3]]))


class Case(unittest.TestCase):
    def answers(self, one, *pairs):
        for row, answer in pairs:
            self.assertEqual(one.say(row), answer, row)

    def refuses(self, one, error, *rows):
        for row in rows:
            before = self.told(one)
            with self.assertRaises(error, msg=row) as caught:
                one.say(row)
            self.assertIs(caught.exception.__class__, error, row)
            self.assertEqual(self.told(one), before, row)

    def told(self, one):
        """What shows of a desk that nothing was changed: its own things, to the last."""
        return repr((one.rows, one.program, one.outer, one.last_run))


class Reading(Case):
    def test_row_drop_and_read(self):
        one = Desk()
        self.answers(one, ("row tool saw 1", "ok"), ("row hand h", "ok"), ("row end", "ok"), ("read", "sound"),
                     ("out 0 start h", "ok"), ("run 5", "done 2"), ("drop", "ok"), ("row hand g", "ok"),
                     ("row end", "ok"), ("read", "sound"), ("out 0 start g", "ok"))
        self.refuses(one, NoThing, "out 0 start h")

    def test_rows_stay_behind_read(self):
        one = desk("hand h\nend")
        self.answers(one, ("row hand g", "ok"), ("row end", "ok"), ("read", "sound"), ("out 0 start h", "ok"),
                     ("out 0 start g", "ok"))

    def test_a_row_of_any_signs_or_none(self):
        for row in ["row ", "row  ", "row row r 1", "row !~", "row drop", "row row", "row   tool saw 1"]:
            one = Desk()
            self.answers(one, (row, "ok"))
            meant = row[4:]
            if meant == "row r 1":
                self.answers(one, ("read", "sound"))
            else:
                self.refuses(one, NoRow, "read")

    def test_no_rows_are_the_text_without_signs(self):
        self.refuses(Desk(), NoRow, "read")
        one = desk("hand h\nend")
        self.answers(one, ("drop", "ok"))
        self.refuses(one, NoRow, "read")

    def test_what_read_refuses(self):
        for error, rows in [(NoRow, ["tool saw"]), (NoPlace, ["wait 1"]), (NoMeasure, ["tool saw 0"]),
                            (Twice, ["tool saw 1", "tool saw 1"]), (Open, ["hand h"]), (TooLong, ["row r 1"] * 121),
                            (errors.TooDeep, ["hand h"] + ["if 1 < 1"] * 6)]:
            one = desk("hand h\nend", "out 1 start h", "run 5", "drop")
            for row in rows:
                self.answers(one, ("row " + row, "ok"))
            self.refuses(one, error, "read")
            self.answers(one, ("log", "1 1 begins h\n1 1 ends"), ("again", "done 2 begun none joined none"),
                         ("undo 1", "ok"))

    def test_a_fault(self):
        for rows, answer in [(["take axe 1"], "fault tool 2 axe"), (["put box 1", "take a 1"], "fault store 2 box"),
                             (["wait 1", "draw v r"], "fault row 3 r"), (["start g"], "fault hand 2 g"),
                             (["start h 1"], "fault numbers 2 h")]:
            one = desk("hand k\nend", "out 1 start k", "run 5", "drop")
            for row in ["hand h"] + rows + ["end"]:
                self.answers(one, ("row " + row, "ok"))
            before = one.program, one.outer, one.last_run
            self.answers(one, ("read", answer), ("read", answer))
            self.assertEqual((one.program, one.outer, one.last_run), before)
            self.answers(one, ("log", "1 1 begins k\n1 1 ends"), ("run 5", "done 2"))

    def test_a_fault_and_no_program_yet(self):
        one = Desk()
        self.answers(one, ("row hand h", "ok"), ("row start g", "ok"), ("row end", "ok"), ("read", "fault hand 2 g"))
        self.refuses(one, NoneYet, *NEED_A_PROGRAM, *NEED_A_RUN)

    def test_read_leaves_nothing_from_without_and_no_kept_run(self):
        one = desk(TEXT, "out 1 start h 1", "run 9")
        self.answers(one, ("read", "sound"))
        self.refuses(one, NoneYet, *NEED_A_RUN)
        self.refuses(one, NoThing, "undo 1")
        self.answers(one, ("run 9", "done 0"), ("log", ""))


class Outer(Case):
    def test_put_behind_all_that_is_not_later(self):
        one = desk()
        self.answers(one, ("out 5 start h 1", "ok"), ("out 3 start h 2", "ok"), ("out 5 bring bin 1", "ok"),
                     ("out 3 bring bin 2", "ok"), ("out 9 start g", "ok"), ("out 0 start k 1 2 3", "ok"),
                     ("out 5 start h 999999", "ok"), ("out 1000 bring bin 999", "ok"), ("run 0", "until 2"))
        meant = [start(0, "k", 1, 2, 3), start(3, "h", 2), bring(3, "bin", 2), start(5, "h", 1), bring(5, "bin", 1),
                 start(5, "h", 999999), start(9, "g"), bring(1000, "bin", 999)]
        self.assertEqual(one.outer, meant)
        kept = kept_run(read(TEXT), meant, 1000)
        self.answers(one, ("run 1000", " ".join(str(part) for part in kept[3]) + f" {len(kept[2])}"),
                     ("log", shown_log(kept[2])))

    def test_undo(self):
        one = desk(TEXT, "out 5 start h 1", "out 3 start h 2", "out 4 bring bin 1")
        self.answers(one, ("undo 2", "ok"))
        self.assertEqual(one.outer, [start(3, "h", 2), start(5, "h", 1)])
        self.refuses(one, NoThing, "undo 3", "undo 0", "undo 999999")
        self.answers(one, ("undo 2", "ok"), ("undo 1", "ok"))
        self.refuses(one, NoThing, "undo 1")

    def test_a_hundred_and_one(self):
        one = desk()
        for k in range(100):
            self.answers(one, (f"out {k} bring bin 1", "ok"))
        self.refuses(one, NoMeasure, "out 5 bring bin 1", "out 5 start h 1")
        self.refuses(one, NoThing, "out 5 bring box 1", "out 5 start h")
        self.answers(one, ("undo 50", "ok"), ("out 5 start h 1", "ok"))
        self.refuses(one, NoMeasure, "out 5 bring bin 1")


class Runs(Case):
    def test_each_end(self):
        for text, rows, until, answer in [
                ("hand h\nend", ["out 3 start h"], 9, "done 2"), ("hand h\nend", [], 9, "done 0"),
                ("hand h\nend", ["out 3 start h"], 2, "until 0"),
                ("hand h\nwait x\nend", ["out 3 start h"], 9, "unknown 1 x 1"),
                ("hand h\nwait 999999*9\nend", ["out 3 start h"], 9, "big 1 1"),
                ("hand h\nwhile 1 = 1\nend\nend", ["out 3 start h"] * 2, 9, "endless 1 2"),
                ("hand h\nend", ["out 3 start h"] * 61, 9, "many 60"),
                ("hand h\nwhile 1 = 1\nwait 0\nend\nend", ["out 3 start h"], 9, "long 500")]:
            self.answers(desk(text, *rows), (f"run {until}", answer))

    def test_run_again_and_log_behind_changes(self):
        one = desk(TEXT, "out 1 start h 1", "out 2 start h 2", "out 20 start h 1")
        old = [start(1, "h", 1), start(2, "h", 2), start(20, "h", 1)]
        kept = kept_run(read(TEXT), old, 50)
        self.answers(one, ("run 50", "done 19"), ("log", shown_log(kept[2])),
                     ("again", "done 19 begun none joined none"), ("out 10 start h 1", "ok"),
                     ("log", shown_log(kept[2])))
        new = old[:2] + [start(10, "h", 1)] + old[2:]
        log, end, begun, joined = rerun(read(TEXT), kept, new)
        self.answers(one, ("again", f"done {len(log)} begun {begun} joined none"), ("log", shown_log(log)),
                     ("again", f"done {len(log)} begun none joined none"))

    def test_joined(self):
        one = desk("store s 0 2\nhand h\nend", "out 1 bring s 2", "out 5 bring s 1", "out 9 start h")
        self.answers(one, ("run 100", "done 4"), ("undo 2", "ok"), ("again", "done 3 begun 5 joined 9"),
                     ("out 0 bring s 1", "ok"), ("again", "done 4 begun none joined 9"),
                     ("log", "0 0 brings s 1\n1 0 brings s 1\n9 1 begins h\n9 1 ends"))

    def test_again_is_until_the_same_moment_and_is_kept_so(self):
        one = desk("store s 0 9\nhand h\nend", "out 1 bring s 2", "run 5", "out 6 bring s 1")
        self.answers(one, ("again", "until 1 begun 1 joined none"), ("out 3 bring s 1", "ok"),
                     ("again", "until 2 begun 1 joined none"), ("level s 4", "3"))

    def test_run_once_more_in_the_place_of_the_kept_run(self):
        one = desk("store s 0 9\nhand h\nend", "out 1 bring s 2", "run 5", "out 2 bring s 1")
        self.answers(one, ("level s 9", "2"), ("run 9", "done 2"), ("level s 9", "3"), ("run 1", "until 1"),
                     ("level s 9", "2"))

    def test_free_level_and_used(self):
        one = desk(TEXT, "out 1 start h 1", "out 2 start h 2", "run 50")
        log = kept_run(read(TEXT), [start(1, "h", 1), start(2, "h", 2)], 50)[2]
        for moment in list(range(12)) + [1000]:
            tools, stores = goods_at(read(TEXT), log, moment)
            self.answers(one, (f"free saw {moment}", str(tools[0][0])), (f"free axe {moment}", str(tools[1][0])),
                         (f"level bin {moment}", str(stores[0][0])),
                         (f"used saw {moment}", str(used(read(TEXT), log, "saw", moment))),
                         (f"used axe {moment}", "0"))
        self.answers(one, ("free saw 3", "1"), ("used saw 3", "2"), ("level bin 4", "2"))

    def test_doomed(self):
        text = "\n".join(["tool a 1", "tool b 1", "hand f", "take a 1", "wait 1", "take b 1", "end", "hand g",
                          "take b 1", "wait 1", "take a 1", "end", "hand m", "take b 2", "end"])
        one = desk(text, "out 0 start f", "out 0 start g")
        self.answers(one, ("run 0", "until 6"), ("doomed", "none"), ("run 50", "done 8"), ("doomed", "1 2"),
                     ("out 9 start m", "ok"), ("doomed", "1 2"), ("again", "done 10 begun 1 joined none"),
                     ("doomed", "1 2 3"), ("undo 1", "ok"), ("doomed", "1 2 3"),
                     ("again", "done 9 begun 0 joined none"), ("doomed", "2"))

    def test_doomed_where_the_run_was_stopped(self):
        one = desk("tool a 1\nhand f\ntake a 2\nend\nhand g\nwait x\nend", "out 0 start f", "out 3 start g")
        self.answers(one, ("run 9", "unknown 2 x 3"), ("doomed", "1"))

    def test_two_desks_are_two(self):
        one, other = desk("hand h\nend"), Desk()
        self.refuses(other, NoneYet, "run 1")
        self.answers(one, ("run 1", "done 0"))

    def test_drawn(self):
        for seed in range(60):
            chance = random.Random(seed)
            text = drawn_text(chance)
            if text.count("\n") < 120:
                self.drawn(chance, text)

    def drawn(self, chance, text):
        one, program, outer, kept = desk(text), read(text), [], None
        for count in range(25):
            deed = chance.random()
            if deed < 0.4:
                for thing in drawn_outer(chance, program)[:2]:
                    if thing[1] == "bring" or min(thing[3] + [0]) >= 0:
                        self.answers(one, (out_of(thing), "ok"))
                        outer.insert(len([each for each in outer if each[0] <= thing[0]]), thing)
            elif deed < 0.55 and outer:
                place = chance.randrange(len(outer))
                outer.pop(place)
                self.answers(one, (f"undo {place + 1}", "ok"))
            elif deed < 0.65 or kept is None:
                until = chance.choice([4, 12, 30])
                kept = kept_run(program, outer, until)
                self.answers(one, (f"run {until}", " ".join(map(str, kept[3] + (len(kept[2]),)))))
            else:
                log, end, begun, joined = rerun(program, kept, outer)
                words = end + (len(log), "begun", begun, "joined", joined)
                self.answers(one, ("again", " ".join(str(word).lower() for word in words)))
                kept = kept_run(program, outer, kept[1])
            if kept is not None:
                self.answers(one, ("log", shown_log(kept[2])))
                yard = CodeYard(program, kept[0], HeapAgenda())
                run_until(yard, kept[1])
                self.answers(one, ("doomed", " ".join(map(str, doomed(yard.view()))) or "none"))


class Refusals(Case):
    NO_FORMS = ["", " ", "row", "rowx", "row\n", "row tool\n", "row \n", "drop ", " drop", "drop 1", "drop\n",
                "Drop", "read ", "read x", "read\n", "sing", "out", "out 1", "out 1 start", "out 1 start ",
                "out 1 start h ", "out 1 start h  1", "out 1 start 1", "out start h", "out 1 stop h",
                "out 1 start hand", "out 1 start h x", "out 1 start h -1", "out 1 start h 01",
                "out 1 start h 1000000", "out -1 start h 1", "out 01 start h 1", "out 1000000 start h 1",
                "out x start h", "out 1 bring bin", "out 1 bring bin 1 1", "out 1 bring", "out 1 bring bin x",
                "out 1 bring tool 1", "out 1 bring 1 bin", "out 1  bring bin 1", "undo", "undo x", "undo 1 1",
                "undo 01", "undo -1", "undo number", "undo 1000000", "run", "run x", "run 1 1", "run -1", "run 00",
                "run 1000000", "run number", "again ", "again 1", "log ", "log 1", "free", "free saw", "free 1",
                "free saw x", "free saw 1 1", "free 1 saw", "free tool 1", "free Saw 1", "free saw 1000000",
                "level bin", "level bin x", "level store 1", "level bin 01", "used saw", "used saw x", "used own 1",
                "used saw number", "doomed ", "doomed 1", "doomed\n", "log\n", "undo 1\n", "free saw 1\n",
                "out 1 start h\n", "free abcdefghi 1", "undo " + "1" * 5000, "run " + "9" * 5000,
                "out 1 bring bin " + "1" * 5000, "out " + "1" * 5000 + " start h", "free saw " + "7" * 5000,
                "free " + "a" * 5000 + " 1"]

    def test_rows_of_no_form(self):
        for one in (Desk(), desk(), desk(TEXT, "out 1 start h 1", "run 9")):
            self.refuses(one, NoForm, *self.NO_FORMS)

    def test_none_yet(self):
        self.refuses(Desk(), NoneYet, *NEED_A_PROGRAM, *NEED_A_RUN)
        self.refuses(desk(), NoneYet, *NEED_A_RUN)
        self.refuses(desk(TEXT, "out 1 start h 1"), NoneYet, *NEED_A_RUN)

    def test_no_thing(self):
        one = desk(TEXT, "run 9")
        self.refuses(one, NoThing, "out 1 start saw", "out 1 start x", "out 1 start h", "out 1 start h 1 2",
                     "out 1 start g 1", "out 1 start k 1 2", "out 1 start k 1 2 3 4", "out 1 start k 1 2 3 4 5 6 7",
                     "out 1 bring saw 1", "out 1 bring h 1", "out 1 bring r 1", "out 1 bring box 1", "undo 1", "undo 0",
                     "free bin 1", "free h 1", "free x 1", "level saw 1", "level r 1", "used bin 1", "used x 1")

    def test_no_measure(self):
        one = desk(TEXT, "run 9")
        self.refuses(one, NoMeasure, "out 1001 start h 1", "out 999999 start g", "out 1001 bring bin 1",
                     "out 1 bring bin 0", "out 1 bring bin 1000", "out 1 bring bin 999999", "run 1001", "run 999999",
                     "free saw 1001", "level bin 1001", "used saw 1001")
        self.answers(one, ("out 1000 start h 1", "ok"), ("out 0 bring bin 1", "ok"), ("out 1 bring bin 999", "ok"),
                     ("run 1000", "until 5"), ("run 0", "until 1"), ("free saw 1000", "2"), ("level bin 0", "2"),
                     ("used saw 0", "0"))

    def test_two_faults_at_once(self):
        nothing, unrun, run = Desk(), desk(), desk(TEXT, "run 9")
        self.refuses(nothing, NoForm, "undo", "free saw", "out 1 start hand")
        self.refuses(nothing, NoneYet, "undo 7", "run 1001", "out 1001 start x", "out 1 bring x 0", "free x 1001")
        self.refuses(unrun, NoneYet, "free x 1", "level saw 1001", "used x 1001")
        self.refuses(unrun, NoForm, "free x", "level saw 1000000")
        self.refuses(run, NoThing, "out 1001 start x", "out 1001 start h", "out 1001 bring x 0", "out 1 bring x 1000",
                     "free x 1001", "level saw 1001", "used bin 1001")
        self.refuses(run, NoForm, "out 1000000 start x", "out 1 bring x 1000000", "free tool 1001")

    def test_each_refusal_is_a_run_error(self):
        for row in ["sing", "run 1", "read"]:
            with self.assertRaises(errors.RunError):
                Desk().say(row)


if __name__ == "__main__":
    unittest.main()
