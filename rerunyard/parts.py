"""What several modules need: the parts of statements, and copies that share nothing with the asker."""


def bodies_of(statement):
    if statement[0] == "if":
        return [statement[5], statement[6]]
    if statement[0] == "while":
        return [statement[5]]
    return []


# Told in the order in which they are reckoned.
def expressions_of(statement):
    word = statement[0]
    if word == "start":
        return list(statement[3])
    if word == "wait":
        return [statement[2]]
    if word in ("if", "while"):
        return [statement[3], statement[4]]
    if word in ("draw", "stop"):
        return []
    return [statement[3]]


def names_of(statement):
    word = statement[0]
    if word in ("wait", "if", "while", "stop"):
        return ()
    if word == "draw":
        return (statement[2], statement[3])
    return (statement[2],)


def holds(sign, left, right):
    if sign == "<":
        return left < right
    return left == right


def frozen(thing):
    if isinstance(thing, (list, tuple)):
        return tuple([frozen(part) for part in thing])
    return thing


def copied(thing):
    if isinstance(thing, list):
        return [copied(part) for part in thing]
    if isinstance(thing, tuple):
        return tuple([copied(part) for part in thing])
    return thing
