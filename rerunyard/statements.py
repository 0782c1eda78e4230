"""The parts of a statement, for all who walk a program."""


def bodies_of(statement):
    if statement[0] == "if":
        return [statement[5], statement[6]]
    if statement[0] == "while":
        return [statement[5]]
    return []
