"""Runs by statements."""

from rerunyard.parts import bodies_of, expressions_of, frozen, holds, names_of
from rerunyard.words import worth
from rerunyard.yards import Yard


class PlainYard(Yard):
    def __init__(self, program, outer, agenda):
        Yard.__init__(self, program, outer, agenda)
        self.bodies = dict([(hand[0], frozen(hand[2])) for hand in program[3]])

    def go_on(self, hand):
        path = path_behind(self.bodies[hand.name], hand.row)
        going = True
        while going:
            statement = next_statement(path)
            if statement is None:
                self.end_hand(hand)
                going = False
            else:
                going = self.enter_statement(hand, statement[1]) and self.do(hand, statement, path)

    def do(self, hand, statement, path):
        numbers = self.reckon(hand, expressions_of(statement))
        if numbers is None:
            return False
        if statement[0] in ("if", "while"):
            choose_body(statement, holds(statement[2], numbers[0], numbers[1]), path)
            return True
        pass_by(path)
        return self.deed(hand, statement[0], names_of(statement), numbers)

    def reckon(self, hand, expressions):
        numbers = []
        for e in expressions:
            n, stop = worth(e, hand.known, self.now, hand.number)
            if stop is not None:
                self.stop_by(hand, stop)
                return None
            numbers.append(n)
        return numbers


# A path tells, for each body from the hand's own to the innermost, which of its statements is begun next. Behind
# the body of a while that is the while itself.
def path_behind(body, row):
    if row == 0:
        return [(body, 0)]
    for at, statement in enumerate(body):
        if statement[1] == row:
            return [(body, at + 1)]
        for within in bodies_of(statement):
            path = path_behind(within, row)
            if path:
                return [(body, at if statement[0] == "while" else at + 1)] + path
    return []


def next_statement(path):
    while path and path[-1][1] == len(path[-1][0]):
        path.pop()
    if not path:
        return None
    body, at = path[-1]
    return body[at]


def pass_by(path):
    body, at = path[-1]
    path[-1] = (body, at + 1)


def choose_body(statement, held, path):
    if statement[0] == "if":
        pass_by(path)
        path.append((statement[5] if held else statement[6], 0))
    elif held:
        path.append((statement[5], 0))
    else:
        pass_by(path)
