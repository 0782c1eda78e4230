"""Programs read from their texts, row by row."""

from rerunyard.errors import NoMeasure, NoPlace, NoRow, Open, TooDeep, TooLong, Twice
from rerunyard.words import expression, is_name, is_number

MOST_ROWS = 120
MOST_DEEP = 6
MOST_PIECES = 9
MOST_LEVEL = 999
MOST_DRAWN = 999
# What is due behind a row's first word ..
FIXED = {
    "tool": ("name", "number"),
    "store": ("name", "number", "number"),
    "row": ("name",),
    "hand": ("name",),
    "end": (),
    "wait": ("expression",),
    "take": ("name", "expression"),
    "give": ("name", "expression"),
    "put": ("name", "expression"),
    "get": ("name", "expression"),
    "let": ("name", "expression"),
    "draw": ("name", "name"),
    "say": ("name", "expression"),
    "start": ("name",),
    "if": ("expression", "sign", "expression"),
    "else": (),
    "while": ("expression", "sign", "expression"),
    "stop": (),
}
# .. and behind that: of which kind, how many at least and at most.
TAILS = {"row": ("number", 1, 20), "hand": ("name", 0, 3), "start": ("expression", 0, 3)}


# The checks stand in the order in which the refusals of one row go ahead of one another.
def read(text):
    texts = text.split("\n")
    if len(texts) > MOST_ROWS:
        raise TooLong("a program of too many rows")
    program = ([], [], [], [])
    bodies = []
    for k, row in enumerate(texts, start=1):
        parts = parts_of(row)
        check_place(k, parts[0], program, bodies)
        check_depth(k, parts[0], bodies)
        check_measure(k, parts)
        check_twice(k, parts, program)
        lay_down(k, parts, program, bodies)
    if bodies:
        raise Open("a body that is not ended")
    return program


def parts_of(row):
    words = row.split(" ")
    kinds = kinds_due(words)
    return words[:1] + [part(kind, word) for kind, word in zip(kinds, words[1:])]


def kinds_due(words):
    first_word = words[0]
    if first_word not in FIXED:
        raise NoRow(f"no row begins so: {first_word}")
    fixed = FIXED[first_word]
    kind, least, most = TAILS.get(first_word, (None, 0, 0))
    rest = len(words) - 1 - len(fixed)
    if not least <= rest <= most:
        raise NoRow(f"a row with too many or too few words: {first_word}")
    return fixed + (kind,) * rest


def part(kind, word):
    if kind == "expression":
        return expression(word)
    if kind == "number" and is_number(word):
        return int(word)
    if kind == "name" and is_name(word):
        return word
    if kind == "sign" and word in ("<", "="):
        return word
    raise NoRow(f"no {kind}: {word}")


def check_place(k, word, program, bodies):
    hands = program[3]
    if word in ("tool", "store", "row"):
        fits = not hands
    elif word == "hand":
        fits = not bodies
    elif word == "else":
        fits = len(bodies) > 0 and bodies[-1][0] == "if"
    else:
        fits = len(bodies) > 0
    if not fits:
        raise NoPlace(f"row {k}: {word} may not stand here")


def check_depth(k, word, bodies):
    if word in ("if", "while") and len(bodies) == MOST_DEEP:
        raise TooDeep(f"row {k}: a body too deep")


def check_measure(k, parts):
    word = parts[0]
    fits = True
    if word == "tool":
        fits = 1 <= parts[2] <= MOST_PIECES
    elif word == "store":
        fits = parts[2] <= parts[3] and 1 <= parts[3] <= MOST_LEVEL
    elif word == "row":
        fits = max(parts[2:]) <= MOST_DRAWN
    if not fits:
        raise NoMeasure(f"row {k}: a number out of its bounds")


def check_twice(k, parts, program):
    tools, stores, rows, hands = program
    ahead = []
    if parts[0] in ("tool", "store"):
        ahead = tools + stores
    elif parts[0] == "row":
        ahead = rows
    elif parts[0] == "hand":
        ahead = hands
    again = [one for one in ahead if one[0] == parts[1]]
    if again or (parts[0] == "hand" and len(set(parts[2:])) < len(parts[2:])):
        raise Twice(f"row {k}: a name that stands twice")


# Of a body not yet ended there is kept the word that began it, its list, and the list for an else, if one may come.
def lay_down(k, parts, program, bodies):
    tools, stores, rows, hands = program
    word = parts[0]
    if word == "tool":
        tools.append((parts[1], parts[2]))
    elif word == "store":
        stores.append((parts[1], parts[2], parts[3]))
    elif word == "row":
        rows.append((parts[1], parts[2:]))
    elif word == "hand":
        body = []
        hands.append((parts[1], parts[2:], body))
        bodies.append(("hand", body, None))
    elif word == "else":
        bodies.append(("else", bodies.pop()[2], None))
    elif word == "end":
        bodies.pop()
    else:
        lay_statement(statement_of(k, parts), bodies)


def statement_of(k, parts):
    word = parts[0]
    if word == "start":
        return (word, k, parts[1], parts[2:])
    if word == "if":
        return (word, k, parts[2], parts[1], parts[3], [], [])
    if word == "while":
        return (word, k, parts[2], parts[1], parts[3], [])
    return (word, k) + tuple(parts[1:])


def lay_statement(statement, bodies):
    bodies[-1][1].append(statement)
    if statement[0] == "if":
        bodies.append(("if", statement[5], statement[6]))
    elif statement[0] == "while":
        bodies.append(("while", statement[5], None))
