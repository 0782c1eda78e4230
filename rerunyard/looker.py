"""The faults of a program: names that none of their kind has, and starts with too many or too few numbers."""

from rerunyard.parts import bodies_of


def faults(program):
    found = []
    for hand in program[3]:
        found.extend(faults_of_body(hand[2], program))
    return found


def sound(program):
    return faults(program) == []


def faults_of_body(body, program):
    found = []
    for statement in body:
        found.extend(faults_of_statement(statement, program))
        for within in bodies_of(statement):
            found.extend(faults_of_body(within, program))
    return found


def faults_of_statement(statement, program):
    word = statement[0]
    tools, stores, rows, hands = program
    if word in ("take", "give"):
        return fault_of_name("tool", statement[1], statement[2], tools)
    if word in ("put", "get"):
        return fault_of_name("store", statement[1], statement[2], stores)
    if word == "draw":
        return fault_of_name("row", statement[1], statement[3], rows)
    if word == "start":
        return fault_of_start(statement, hands)
    return []


def fault_of_name(kind, k, name, ones):
    if name in [one[0] for one in ones]:
        return []
    return [(kind, k, name)]


def fault_of_start(statement, hands):
    k, name = statement[1], statement[2]
    found = fault_of_name("hand", k, name, hands)
    if not found and len(statement[3]) not in [len(hand[1]) for hand in hands if hand[0] == name]:
        found.append(("numbers", k, name))
    return found
