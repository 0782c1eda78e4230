"""The yard: what runs by statements and runs by code have in common."""

from rerunyard.goods import Goods
from rerunyard.parts import frozen

MOST_STATEMENTS = 100
MOST_HANDS = 60
MOST_HAPPENINGS = 500
HAD = {"take": "takes", "put": "puts", "get": "gets"}


# A hand rests at one statement alone, so its row tells where it goes on: nothing else of its place is kept.
class Hand:
    def __init__(self, number, name, row, known):
        self.number = number
        self.name = name
        self.row = row
        self.known = known


class Yard:
    def __init__(self, program, outer, agenda):
        self.names = dict([(hand[0], tuple(hand[1])) for hand in program[3]])
        self.drawn = dict([(row[0], tuple(row[1])) for row in program[2]])
        self.places = dict([(row[0], 0) for row in program[2]])
        self.outer = frozen(outer)
        self.outer_done = 0
        self.agenda = agenda
        self.goods = Goods(program)
        self.hands = {}
        self.begun = 0
        self.now = 0
        self.happenings = 0
        self.statements = 0
        self.laid = []
        self.stopped = None

    def next_moment(self):
        if self.stopped is not None:
            return None
        if self.outer_is_next():
            return self.outer[self.outer_done][0]
        return self.agenda.first()

    def outer_is_next(self):
        if self.outer_done == len(self.outer):
            return False
        moment = self.agenda.first()
        return moment is None or self.outer[self.outer_done][0] <= moment

    def step(self):
        moment = self.next_moment()
        if moment is None:
            return
        if moment > self.now:
            self.now = moment
            self.happenings = 0
        if self.happenings == MOST_HAPPENINGS:
            self.stopped = ("long",)
            return
        self.happenings = self.happenings + 1
        if self.outer_is_next():
            self.do_outer()
        else:
            self.statements = 0
            self.go_on(self.hands[self.agenda.take()[1]])

    def do_outer(self):
        thing = self.outer[self.outer_done]
        self.outer_done = self.outer_done + 1
        if thing[1] == "start":
            self.begin(thing[2], thing[3])
        else:
            brought, served = self.goods.bring(thing[2], thing[3])
            self.lay(0, ("brings", thing[2], brought))
            self.wake(thing[2], served)

    # Each kind of run goes on in its own way; the hands of a bare yard have nothing to do, so they end.
    def go_on(self, hand):
        self.end_hand(hand)

    def moment(self):
        return self.now

    def log(self):
        return list(self.laid)

    def logged(self):
        return len(self.laid)

    def end(self):
        return self.stopped

    def view(self):
        hands = [self.hands[number] for number in sorted(self.hands)]
        told = [(hand.number, hand.name, hand.row, sorted(hand.known.items())) for hand in hands]
        return (self.now, told, self.goods.tools(), self.goods.stores(), list(self.places.values()),
                self.agenda.in_order())

    def kept(self):
        return frozen(self.view()[1:]) + (self.begun, len(self.outer) - self.outer_done)

    def stand(self, kept):
        hands, tools, stores, places, agenda, begun, left = kept
        self.hands = dict([(hand[0], Hand(hand[0], hand[1], hand[2], dict(hand[3]))) for hand in hands])
        self.goods.stand(tools, stores)
        self.places = dict(zip(list(self.places), places))
        self.agenda.stand(list(agenda))
        self.begun = begun
        self.outer_done = len(self.outer) - left
        self.now = 0
        self.happenings = 0
        self.laid = []
        self.stopped = None

    def lay(self, number, words):
        self.laid.append((self.now, number) + words)

    def wake(self, name, served):
        for number, word, n in served:
            self.lay(number, (word, name, n))
            self.agenda.put(self.now, number)

    def begin(self, name, numbers):
        if self.begun == MOST_HANDS:
            self.stopped = ("many",)
            return
        self.begun = self.begun + 1
        self.hands[self.begun] = Hand(self.begun, name, 0, dict(zip(self.names[name], numbers)))
        self.lay(self.begun, ("begins", name))
        self.agenda.put(self.now, self.begun)

    def end_hand(self, hand):
        self.hands.pop(hand.number)
        self.lay(hand.number, ("ends",))
        for name, given, served in self.goods.leave(hand.number):
            self.lay_given(hand, name, given, served)

    def lay_given(self, hand, name, given, served):
        if given > 0:
            self.lay(hand.number, ("gives", name, given))
        self.wake(name, served)

    # Tells whether the statement may be begun.
    def enter_statement(self, hand, k):
        if self.statements == MOST_STATEMENTS:
            self.stopped = ("endless", hand.number)
            return False
        self.statements = self.statements + 1
        hand.row = k
        return True

    def stop_by(self, hand, stop):
        self.stopped = (stop[0], hand.number) + stop[1:]

    # Does a statement whose expressions are reckoned; tells whether the hand goes on behind it.
    def deed(self, hand, word, names, numbers):
        if word == "wait":
            self.wait(hand, max(0, numbers[0]))
            return False
        if word == "stop":
            self.end_hand(hand)
            return False
        if word in HAD:
            return numbers[0] < 1 or self.ask(hand, word, names[0], numbers[0])
        if word == "give":
            self.give(hand, names[0], numbers[0])
        elif word == "let":
            hand.known[names[0]] = numbers[0]
        elif word == "draw":
            hand.known[names[0]] = self.draw(names[1])
        elif word == "say":
            self.lay(hand.number, ("says", names[0], numbers[0]))
        else:
            self.begin(names[0], numbers)
        return self.stopped is None

    def wait(self, hand, moments):
        self.lay(hand.number, ("waits", moments))
        self.agenda.put(self.now + moments, hand.number)

    def ask(self, hand, word, name, n):
        if word == "take":
            had, served = self.goods.take(hand.number, name, n), []
        elif word == "put":
            had, served = self.goods.put(hand.number, name, n)
        else:
            had, served = self.goods.get(hand.number, name, n)
        if had:
            self.lay(hand.number, (HAD[word], name, n))
            self.wake(name, served)
        else:
            self.lay(hand.number, ("queues", word, name, n))
        return had

    def give(self, hand, name, n):
        if n > 0:
            given, served = self.goods.give(hand.number, name, n)
            self.lay_given(hand, name, given, served)

    def draw(self, name):
        numbers = self.drawn[name]
        place = self.places[name]
        self.places[name] = (place + 1) % len(numbers)
        return numbers[place]


# A run that is taken up with a longer list from without has so many more things left.
def with_more_left(kept, more):
    return kept[:-1] + (kept[-1] + more,)
