"""Code of a program: for each hand what a machine does in the place of its statements.

A hand's code is a tuple (name, steps, places). Steps:
("begin", k): the statement of row k is begun;
("number", n), ("name", w), ("now",), ("own",): a worth is laid upon the stack;
("+",), ("-",), ("*",): the worth of the two uppermost takes their place;
("unless", sign, to): the stack is emptied; where what stood there doesn't hold, on to that step;
("jump", to): on to that step;
("deed", word, names): a statement is done, with all that the stack holds.
Places are tuples (row, step): where a hand that rested at that row goes on.
"""

from rerunyard.parts import expressions_of, names_of


def code_of(program):
    return tuple([code_of_hand(hand[0], hand[2]) for hand in program[3]])


def code_of_hand(name, body):
    steps = []
    places = [(0, 0)]
    lay_body(body, steps, places)
    steps.append(("deed", "stop", ()))
    return (name, tuple(steps), tuple(places))


def lay_body(body, steps, places):
    for statement in body:
        if statement[0] == "if":
            lay_if(statement, steps, places)
        elif statement[0] == "while":
            lay_while(statement, steps, places)
        else:
            lay_beginning(statement, steps)
            steps.append(("deed", statement[0], names_of(statement)))
            places.append((statement[1], len(steps)))


def lay_beginning(statement, steps):
    steps.append(("begin", statement[1]))
    for e in expressions_of(statement):
        lay_expression(e, steps)


def lay_expression(e, steps):
    if e[0] in ("+", "-", "*"):
        lay_expression(e[1], steps)
        lay_expression(e[2], steps)
        steps.append((e[0],))
    else:
        steps.append(e)


# Where a jump leads is known only when what lies between is laid: a step is held free for it till then.
def lay_if(statement, steps, places):
    lay_beginning(statement, steps)
    unless = hold_free(steps)
    lay_body(statement[5], steps, places)
    jump = hold_free(steps)
    steps[unless] = ("unless", statement[2], len(steps))
    lay_body(statement[6], steps, places)
    steps[jump] = ("jump", len(steps))


def lay_while(statement, steps, places):
    first = len(steps)
    lay_beginning(statement, steps)
    unless = hold_free(steps)
    lay_body(statement[5], steps, places)
    steps.append(("jump", first))
    steps[unless] = ("unless", statement[2], len(steps))


def hold_free(steps):
    steps.append(())
    return len(steps) - 1
