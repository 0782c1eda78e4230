"""Runs by code."""

from rerunyard.coder import code_of
from rerunyard.parts import holds
from rerunyard.words import bounded, reckoned, worth_of_name
from rerunyard.yards import Yard


class CodeYard(Yard):
    def __init__(self, program, outer, agenda):
        Yard.__init__(self, program, outer, agenda)
        self.codes = dict([(name, (steps, dict(places))) for name, steps, places in code_of(program)])

    def go_on(self, hand):
        steps, places = self.codes[hand.name]
        stack = []
        at = places[hand.row]
        while at is not None:
            at = self.do(hand, steps[at], at, stack)

    # Tells at which step the hand goes on, None where it doesn't.
    def do(self, hand, step, at, stack):
        word = step[0]
        if word == "jump":
            return step[1]
        if word == "unless":
            left, right = emptied(stack)
            return at + 1 if holds(step[1], left, right) else step[2]
        if word == "begin":
            going = self.enter_statement(hand, step[1])
        elif word == "deed":
            going = self.deed(hand, step[1], step[2], emptied(stack))
        else:
            going = self.lay_worth(hand, step, stack)
        return at + 1 if going else None

    def lay_worth(self, hand, step, stack):
        n, stop = self.worth_of_step(hand, step, stack)
        if stop is not None:
            self.stop_by(hand, stop)
            return False
        stack.append(n)
        return True

    def worth_of_step(self, hand, step, stack):
        word = step[0]
        if word == "number":
            return (step[1], None)
        if word == "name":
            return worth_of_name(step[1], hand.known)
        if word == "now":
            return (self.now, None)
        if word == "own":
            return (hand.number, None)
        right = stack.pop()
        left = stack.pop()
        return bounded(reckoned(word, left, right))


def emptied(stack):
    numbers = stack.copy()
    stack.clear()
    return numbers
