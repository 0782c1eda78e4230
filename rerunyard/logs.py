"""Logs written as text, and read again."""

from rerunyard.errors import NoLog
from rerunyard.words import is_name, is_number, is_whole

MOST_FIGURES = 7
# What is due behind the moment, the hand and the word.
FORMS = {
    "begins": ("name",),
    "waits": ("number",),
    "queues": ("asked", "name", "number"),
    "takes": ("name", "number"),
    "puts": ("name", "number"),
    "gets": ("name", "number"),
    "gives": ("name", "number"),
    "says": ("name", "said"),
    "ends": (),
    "brings": ("name", "number"),
}


def shown_log(log):
    return "\n".join([shown_row(row) for row in log])


def shown_row(row):
    return " ".join([str(part) for part in row])


def read_log(text):
    log = []
    if text == "":
        return log
    for row in text.split("\n"):
        told = read_row(row)
        if log and told[0] < log[-1][0]:
            raise NoLog(f"a moment less than one ahead: {row}")
        log.append(told)
    return log


def read_row(row):
    words = row.split(" ")
    if len(words) < 3 or words[2] not in FORMS or len(words) != 3 + len(FORMS[words[2]]):
        raise NoLog(f"a row of no form: {row}")
    kinds = ("moment", "nobody" if words[2] == "brings" else "hand", "word") + FORMS[words[2]]
    return tuple([part(kind, word) for kind, word in zip(kinds, words)])


def part(kind, word):
    if not fits(kind, word):
        raise NoLog(f"no {kind}: {word}")
    if kind in ("word", "name", "asked"):
        return word
    return int(word)


def fits(kind, word):
    if kind == "name":
        return is_name(word)
    if kind == "asked":
        return word in ("take", "put", "get")
    if kind == "moment":
        return is_number(word)
    if kind == "nobody":
        return word == "0"
    if kind == "hand":
        return word != "0" and is_whole(word, MOST_FIGURES)
    if kind == "said" and word.startswith("-"):
        return word != "-0" and is_whole(word[1:], MOST_FIGURES)
    return kind == "word" or is_whole(word, MOST_FIGURES)
