"""The desk: it is told rows and answers each by a text."""

from rerunyard.doomed import doomed
from rerunyard.errors import NoForm, NoMeasure, NoneYet, NoThing
from rerunyard.logs import shown_log
from rerunyard.looker import faults
from rerunyard.reader import read
from rerunyard.runs import kept_run, run_anew
from rerunyard.sums import goods_at, used
from rerunyard.words import is_name, is_number

MOST_MOMENT = 1000
MOST_BROUGHT = 999
MOST_OUTER = 100
# What is due behind a row's first word, but for out.
FORMS = {
    "drop": (),
    "read": (),
    "undo": ("number",),
    "run": ("number",),
    "again": (),
    "log": (),
    "free": ("name", "number"),
    "level": ("name", "number"),
    "used": ("name", "number"),
    "doomed": (),
}


class Desk:
    def __init__(self):
        self.rows = []
        self.program = None
        self.outer = []
        self.last_run = None

    def say(self, row):
        if row.startswith("row ") and "\n" not in row:
            self.rows.append(row[4:])
            return "ok"
        parts = parts_of(row)
        if parts[0] == "drop":
            self.rows = []
            return "ok"
        if parts[0] == "read":
            return self.read_rows()
        if self.program is None:
            raise NoneYet("no program yet")
        if parts[0] in ("out", "undo", "run"):
            return self.change(parts)
        if self.last_run is None:
            raise NoneYet("no kept run yet")
        if parts[0] == "again":
            return self.run_again()
        return self.tell(parts)

    def read_rows(self):
        program = read("\n".join(self.rows))
        found = faults(program)
        if found:
            return "fault " + parted(found[0])
        self.program = program
        self.outer = []
        self.last_run = None
        return "sound"

    def change(self, parts):
        if parts[0] == "run":
            check_measure(parts[1], 0, MOST_MOMENT)
            self.last_run = kept_run(self.program, self.outer, parts[1])
            return self.told_end()
        if parts[0] == "undo":
            if not 1 <= parts[1] <= len(self.outer):
                raise NoThing("no such thing from without")
            self.outer.pop(parts[1] - 1)
        elif parts[2] == "start":
            self.put_start(parts[1], parts[3], parts[4:])
        else:
            self.put_bring(parts[1], parts[3], parts[4])
        return "ok"

    def put_start(self, moment, name, numbers):
        hand = self.program[3][place_of(name, self.program[3])]
        if len(numbers) != len(hand[1]):
            raise NoThing("too many or too few numbers for this hand")
        self.put_outer((moment, "start", name, numbers))

    def put_bring(self, moment, name, n):
        place_of(name, self.program[1])
        check_measure(n, 1, MOST_BROUGHT)
        self.put_outer((moment, "bring", name, n))

    def put_outer(self, thing):
        check_measure(thing[0], 0, MOST_MOMENT)
        check_measure(len(self.outer) + 1, 1, MOST_OUTER)
        at = len([one for one in self.outer if one[0] <= thing[0]])
        self.outer.insert(at, thing)

    def run_again(self):
        anew, begun, joined = run_anew(self.program, self.last_run, self.outer)
        self.last_run = anew
        return parted((self.told_end(), "begun", or_none(begun), "joined", or_none(joined)))

    def told_end(self):
        log, end = self.last_run[2], self.last_run[3]
        return parted(end + (len(log),))

    def tell(self, parts):
        until, log = self.last_run[1], self.last_run[2]
        if parts[0] == "log":
            return shown_log(log)
        if parts[0] == "doomed":
            # Of a view the tools alone are asked for, and the log tells them.
            tools = goods_at(self.program, log, until)[0]
            return parted(doomed((until, [], tools))) or "none"
        kind = 1 if parts[0] == "level" else 0
        at = place_of(parts[1], self.program[kind])
        check_measure(parts[2], 0, MOST_MOMENT)
        if parts[0] == "used":
            return str(used(self.program, log, parts[1], parts[2]))
        return str(goods_at(self.program, log, parts[2])[kind][at][0])


def parts_of(row):
    words = row.split(" ")
    kinds = kinds_due(words)
    if len(kinds) != len(words) - 1:
        raise NoForm(f"a row with too many or too few words: {row}")
    return words[:1] + [part(kind, word) for kind, word in zip(kinds, words[1:])]


def kinds_due(words):
    if words[0] == "out" and words[2:3] == ["start"]:
        return ("number", "start", "name") + ("number",) * (len(words) - 4)
    if words[0] == "out":
        return ("number", "bring", "name", "number")
    if words[0] not in FORMS:
        raise NoForm("no row begins so")
    return FORMS[words[0]]


def part(kind, word):
    if kind == "number" and is_number(word):
        return int(word)
    if kind == "name" and is_name(word):
        return word
    if kind in ("start", "bring") and word == kind:
        return word
    raise NoForm(f"no {kind}: {word}")


def place_of(name, ones):
    names = [one[0] for one in ones]
    if name not in names:
        raise NoThing(f"no such thing: {name}")
    return names.index(name)


def check_measure(n, least, most):
    if not least <= n <= most:
        raise NoMeasure("a number out of its bounds")


def or_none(moment):
    return "none" if moment is None else str(moment)


def parted(words):
    return " ".join([str(word) for word in words])
