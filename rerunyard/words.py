"""Names, numbers and expressions, and what an expression is worth."""

from rerunyard.errors import NoRow

LETTERS = "abcdefghijklmnopqrstuvwxyz"
FIGURES = "0123456789"
SIGNS = "+-*()"
NO_NAMES = ("tool", "store", "row", "hand", "end", "wait", "take", "give", "put", "get",
            "let", "draw", "say", "start", "if", "else", "while", "stop", "now", "own")
MOST_LETTERS = 8
MOST_FIGURES = 6
MOST_SIGNS = 60
MOST_BRACKETS = 5
MOST_WORTH = 1000000
# No token is empty, so the empty text can mark where the tokens end.
LAST = ""


def is_name(word):
    return (1 <= len(word) <= MOST_LETTERS and word not in NO_NAMES
            and all([sign in LETTERS for sign in word]))


def is_number(word):
    return is_whole(word, MOST_FIGURES)


# The length is asked first: Python's own int refuses a word of some thousands of figures.
def is_whole(word, most):
    return (1 <= len(word) <= most and (word == "0" or not word.startswith("0"))
            and all([sign in FIGURES for sign in word]))


def expression(word):
    if len(word) > MOST_SIGNS:
        raise NoRow("an expression of too many signs")
    tokens = tokens_of(word)
    e, at = read_sum(tokens, 0, 0)
    if tokens[at] != LAST:
        raise NoRow(f"no expression: {word}")
    return e


# Any sign that is none of an expression's stays in its token, which is then no factor.
def tokens_of(word):
    tokens = [""]
    for sign in word:
        if sign in SIGNS:
            tokens.append(sign)
            tokens.append("")
        else:
            tokens[-1] = tokens[-1] + sign
    return [token for token in tokens if token != ""] + [LAST]


def read_sum(tokens, at, depth):
    e, at = read_term(tokens, at, depth)
    while tokens[at] in ("+", "-"):
        sign = tokens[at]
        right, at = read_term(tokens, at + 1, depth)
        e = (sign, e, right)
    return (e, at)


def read_term(tokens, at, depth):
    e, at = read_factor(tokens, at, depth)
    while tokens[at] == "*":
        right, at = read_factor(tokens, at + 1, depth)
        e = ("*", e, right)
    return (e, at)


def read_factor(tokens, at, depth):
    if tokens[at] != "(":
        return (leaf(tokens[at]), at + 1)
    if depth == MOST_BRACKETS:
        raise NoRow("an expression of too many brackets within one another")
    e, at = read_sum(tokens, at + 1, depth + 1)
    if tokens[at] != ")":
        raise NoRow("a bracket that is not closed")
    return (e, at + 1)


def leaf(token):
    if token in ("now", "own"):
        return (token,)
    if is_name(token):
        return ("name", token)
    if is_number(token):
        return ("number", int(token))
    raise NoRow(f"no factor of an expression: {token}")


def worth(e, values, now, own):
    kind = e[0]
    if kind == "number":
        return (e[1], None)
    if kind == "name":
        return worth_of_name(e[1], values)
    if kind == "now":
        return (now, None)
    if kind == "own":
        return (own, None)
    left = worth(e[1], values, now, own)
    if left[1] is not None:
        return left
    right = worth(e[2], values, now, own)
    if right[1] is not None:
        return right
    return bounded(reckoned(kind, left[0], right[0]))


def worth_of_name(name, values):
    if name in values:
        return (values[name], None)
    return (None, ("unknown", name))


def reckoned(sign, left, right):
    if sign == "+":
        return left + right
    if sign == "-":
        return left - right
    return left * right


def bounded(n):
    if abs(n) > MOST_WORTH:
        return (None, ("big",))
    return (n, None)
