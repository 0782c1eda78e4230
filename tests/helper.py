"""What several tests need: runs of each kind, drawn programs, and a plain model to hold the program against."""

import copy

from rerunyard.agendas import HeapAgenda, ListAgenda
from rerunyard.machine import CodeYard
from rerunyard.plain import PlainYard
from rerunyard.reader import read

KINDS = [(kind, agenda) for kind in (PlainYard, CodeYard) for agenda in (ListAgenda, HeapAgenda)]


def program(*rows):
    return read("\n".join(rows))


def start(moment, name, *numbers):
    return (moment, "start", name, list(numbers))


def bring(moment, name, n):
    return (moment, "bring", name, n)


def went(yard, most=100000):
    """Steps till nothing is left or the run has stopped."""
    while yard.next_moment() is not None and most > 0:
        yard.step()
        most -= 1
    return yard


def went_until(yard, until):
    while yard.next_moment() is not None and yard.next_moment() <= until:
        yard.step()
    return yard


class Stopped(Exception):
    pass


class Model:
    """A run told once more in another way: each hand is a generator, which yields where it rests."""

    def __init__(self, program, outer):
        self.tools, self.stores, self.rows, self.kinds = copy.deepcopy(program)
        self.coming = copy.deepcopy(outer)
        self.now, self.log, self.end = 0, [], None
        self.happened, self.born = [], 0
        self.hands, self.lives, self.agenda = {}, {}, []
        self.free = dict(self.tools)
        self.held, self.takers = {t: {} for t in self.free}, {t: [] for t in self.free}
        self.level, self.most = {s: f for s, f, m in self.stores}, {s: m for s, f, m in self.stores}
        self.getters, self.putters = {s: [] for s in self.level}, {s: [] for s in self.level}
        self.draws = {r: 0 for r, numbers in self.rows}

    def next_moment(self):
        moments = [one[0] for one in self.coming[:1]] + [one[0] for one in self.agenda]
        return min(moments) if moments and self.end is None else None

    def step(self):
        moment = self.next_moment()
        if moment is None:
            return
        self.now = moment
        if self.happened.count(moment) == 500:
            self.end = ("long",)
            return
        self.happened.append(moment)
        try:
            if self.coming and self.coming[0][0] == moment:
                self.from_without(self.coming.pop(0))
            else:
                first = min(range(len(self.agenda)), key=lambda k: (self.agenda[k][0], k))
                self.go_on(self.agenda.pop(first)[1])
        except Stopped as stop:
            self.end = stop.args[0]

    def from_without(self, thing):
        if thing[1] == "start":
            self.bear(thing[2], thing[3])
        else:
            n = min(thing[3], self.most[thing[2]] - self.level[thing[2]])
            self.level[thing[2]] += n
            self.say(0, "brings", thing[2], n)
            self.settle(thing[2])

    def say(self, hand, *words):
        self.log.append((self.now, hand) + words)

    def bear(self, name, numbers):
        if self.born == 60:
            raise Stopped(("many",))
        self.born += 1
        names, body = [(kind[1], kind[2]) for kind in self.kinds if kind[0] == name][0]
        hand = {"name": name, "row": 0, "values": dict(zip(names, numbers)), "number": self.born}
        self.hands[self.born] = hand
        self.lives[self.born] = self.body(hand, body)
        self.say(self.born, "begins", name)
        self.agenda.append((self.now, self.born))

    def go_on(self, number):
        self.count = 0
        for rest in self.lives[number]:
            if rest == "rests":
                return
            break
        self.say(number, "ends")
        del self.hands[number]
        for tool, count in self.tools:
            n = self.held[tool].pop(number, 0)
            if n:
                self.back(number, tool, n)

    def back(self, number, tool, n):
        self.free[tool] += n
        self.say(number, "gives", tool, n)
        while self.takers[tool] and self.takers[tool][0][1] <= self.free[tool]:
            hand, wanted = self.takers[tool].pop(0)
            self.have(hand, tool, wanted)
            self.agenda.append((self.now, hand))

    def have(self, hand, tool, n):
        self.free[tool] -= n
        self.held[tool][hand] = self.held[tool].get(hand, 0) + n
        self.say(hand, "takes", tool, n)

    def settle(self, store):
        while True:
            if self.getters[store] and self.getters[store][0][1] <= self.level[store]:
                (hand, n), word, sign = self.getters[store].pop(0), "gets", -1
            elif self.putters[store] and self.putters[store][0][1] + self.level[store] <= self.most[store]:
                (hand, n), word, sign = self.putters[store].pop(0), "puts", 1
            else:
                return
            self.level[store] += sign * n
            self.say(hand, word, store, n)
            self.agenda.append((self.now, hand))

    def begun(self, hand, statement):
        self.count += 1
        if self.count > 100:
            raise Stopped(("endless", hand["number"]))
        hand["row"] = statement[1]

    def of(self, hand, e):
        if e[0] == "number":
            return e[1]
        if e[0] == "name":
            if e[1] not in hand["values"]:
                raise Stopped(("unknown", hand["number"], e[1]))
            return hand["values"][e[1]]
        if e[0] in ("now", "own"):
            return self.now if e[0] == "now" else hand["number"]
        left, right = self.of(hand, e[1]), self.of(hand, e[2])
        told = {"+": left + right, "-": left - right, "*": left * right}[e[0]]
        if not -1000000 <= told <= 1000000:
            raise Stopped(("big", hand["number"]))
        return told

    def true(self, hand, statement):
        left, right = self.of(hand, statement[3]), self.of(hand, statement[4])
        return left < right if statement[2] == "<" else left == right

    def body(self, hand, body):
        for statement in body:
            self.begun(hand, statement)
            if statement[0] == "if":
                yield from self.body(hand, statement[5 if self.true(hand, statement) else 6])
            elif statement[0] == "while":
                while self.true(hand, statement):
                    yield from self.body(hand, statement[5])
                    self.begun(hand, statement)
            elif statement[0] == "stop":
                yield "stops"
            elif self.simple(hand, *statement[2:], word=statement[0]):
                yield "rests"

    def simple(self, hand, *parts, word):
        number = hand["number"]
        if word == "draw":
            numbers = dict(self.rows)[parts[1]]
            hand["values"][parts[0]] = numbers[self.draws[parts[1]] % len(numbers)]
            self.draws[parts[1]] += 1
        elif word == "start":
            self.bear(parts[0], [self.of(hand, e) for e in parts[1]])
        elif word == "wait":
            n = max(self.of(hand, parts[0]), 0)
            self.say(number, "waits", n)
            self.agenda.append((self.now + n, number))
            return True
        else:
            n = self.of(hand, parts[1])
            if word == "let":
                hand["values"][parts[0]] = n
            elif word == "say":
                self.say(number, "says", parts[0], n)
            elif n > 0:
                return getattr(self, "do_" + word)(number, parts[0], n)
        return False

    def do_take(self, number, tool, n):
        if not self.takers[tool] and n <= self.free[tool]:
            self.have(number, tool, n)
            return False
        self.takers[tool].append((number, n))
        self.say(number, "queues", "take", tool, n)
        return True

    def do_give(self, number, tool, n):
        n = min(n, self.held[tool].get(number, 0))
        if n:
            self.held[tool][number] -= n
            self.back(number, tool, n)
        return False

    def do_put(self, number, store, n):
        if self.putters[store] or self.level[store] + n > self.most[store]:
            self.putters[store].append((number, n))
            self.say(number, "queues", "put", store, n)
            return True
        self.level[store] += n
        self.say(number, "puts", store, n)
        self.settle(store)
        return False

    def do_get(self, number, store, n):
        if self.getters[store] or self.level[store] < n:
            self.getters[store].append((number, n))
            self.say(number, "queues", "get", store, n)
            return True
        self.level[store] -= n
        self.say(number, "gets", store, n)
        self.settle(store)
        return False

    def view(self):
        return (self.now,
                [(k, self.hands[k]["name"], self.hands[k]["row"], sorted(self.hands[k]["values"].items()))
                 for k in sorted(self.hands)],
                [(self.free[t], sorted(one for one in self.held[t].items() if one[1]), list(self.takers[t]))
                 for t, count in self.tools],
                [(self.level[s], list(self.getters[s]), list(self.putters[s])) for s, first, most in self.stores],
                [self.draws[r] % len(numbers) for r, numbers in self.rows],
                sorted(self.agenda, key=lambda one: one[0]))


def drawn_text(chance):
    """A sound program: tools, stores and rows of which there is little, and hands that want much of them."""
    names = ["saw", "axe"][:chance.choice([0, 1, 2, 2])]
    rows = [f"tool {name} {chance.randrange(1, 4)}" for name in names]
    stores = ["bin", "box"][:chance.choice([0, 1, 1, 2])]
    for name in stores:
        most = chance.randrange(1, 7)
        rows.append(f"store {name} {chance.randrange(most + 1)} {most}")
    drawn = ["r", "q"][:chance.randrange(3)]
    for name in drawn:
        rows.append(f"row {name} " + " ".join(str(chance.randrange(4)) for k in range(chance.randrange(1, 4))))
    hands = [("f", []), ("g", ["a"]), ("h", ["b", "a"])][:chance.randrange(1, 4)]
    for name, known in hands:
        rows.append(" ".join(["hand", name] + known))
        rows.extend(drawn_body(chance, (names, stores, drawn, hands), 1, list(known)))
        rows.append("end")
    return "\n".join(rows)


def drawn_body(chance, goods, depth, known):
    rows = []
    for k in range(chance.randrange(1, 6 if depth == 1 else 4)):
        rows.extend(drawn_statement(chance, goods, depth, known))
    return rows


def drawn_expression(chance, known):
    pool = ["0", "1", "1", "2", "2", "3"] + known * 2
    word = chance.choice(pool)
    if chance.random() < 0.3:
        word += chance.choice("+-*") + chance.choice(pool + ["own", "now"])
    if chance.random() < 0.01:
        word += "*999999"
    return word


def drawn_statement(chance, goods, depth, known):
    tools, stores, drawn, hands = goods
    word = chance.choice("wait wait take take take give put put get get let draw say start if while stop".split())
    e = drawn_expression(chance, known + (["c"] if chance.random() < 0.02 else []))
    if word in ("take", "give") and tools:
        return [f"{word} {chance.choice(tools)} {e}"]
    if word in ("put", "get") and stores:
        return [f"{word} {chance.choice(stores)} {e}"]
    if word == "draw" and drawn:
        known.append("v")
        return [f"draw v {chance.choice(drawn)}"]
    if word == "let":
        known.append(chance.choice("abv"))
        return [f"let {known[-1]} {e}"]
    if word == "start" and chance.random() < 0.5:
        name, names = chance.choice(hands)
        return [" ".join(["start", name] + [drawn_expression(chance, known) for k in names])]
    if word in ("if", "while") and depth < 4:
        return drawn_choice(chance, goods, depth, known, word)
    if word == "stop" and chance.random() < 0.2:
        return ["stop"]
    return [f"wait {e}"] if chance.random() < 0.6 else [f"say w {e}"]


def drawn_choice(chance, goods, depth, known, word):
    sign, left, right = chance.choice("<="), drawn_expression(chance, known), drawn_expression(chance, known)
    if word == "while" and chance.random() < 0.8:
        return ["let i 0", f"while i < {chance.randrange(1, 4)}", "let i i+1"] + \
            drawn_body(chance, goods, depth + 1, list(known)) + ["end"]
    rows = [f"{word} {left} {sign} {right}"] + drawn_body(chance, goods, depth + 1, list(known))
    if word == "if" and chance.random() < 0.5:
        rows += ["else"] + drawn_body(chance, goods, depth + 1, list(known))
    return rows + ["end"]


def drawn_program(chance):
    text = drawn_text(chance)
    while text.count("\n") >= 120:
        text = drawn_text(chance)
    return read(text)


def drawn_thing(chance, program, most):
    moment = chance.randrange(most)
    if program[1] and chance.random() < 0.3:
        return bring(moment, chance.choice(program[1])[0], chance.randrange(1, 5))
    hand = chance.choice(program[3])
    return start(moment, hand[0], *[chance.randrange(-1, 4) for name in hand[1]])


def drawn_outer(chance, program, most=12):
    things = [drawn_thing(chance, program, most) for k in range(chance.randrange(9))]
    return sorted(things, key=lambda thing: thing[0])


def changed_outer(chance, program, outer, most=12):
    things = copy.deepcopy(outer)
    for k in range(chance.choice([0, 1, 1, 1, 2, 3])):
        deed = chance.random()
        if things and deed < 0.6:
            things.pop(chance.randrange(len(things)))
        if deed > 0.3:
            things.insert(chance.randrange(len(things) + 1), drawn_thing(chance, program, most))
    return sorted(things, key=lambda thing: thing[0])
