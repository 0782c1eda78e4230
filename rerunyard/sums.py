"""Reckonings from the log alone: goods at a moment, waits, what was used and what stood in queues."""

from rerunyard.goods import hand_in, hand_out, stores_of, told_store, told_tool, tools_of

# What stands in the log when it is had, and what was asked for then.
ASKED = {"takes": "take", "puts": "put", "gets": "get"}


def goods_at(program, log, moment):
    tools = tools_of(program)
    stores = stores_of(program)
    for row in log:
        if row[0] <= moment:
            replay_queue(row, tools, stores)
            replay_goods(row, tools, stores)
    return ([told_tool(tool) for tool in tools.values()], [told_store(store) for store in stores.values()])


# Nobody has at once what others wait for, so a hand that has what it stands for was served.
def replay_queue(row, tools, stores):
    if row[2] == "queues":
        queue_of(row[3], row[4], tools, stores).append((row[1], row[5]))
    elif row[2] in ASKED:
        queue = queue_of(ASKED[row[2]], row[3], tools, stores)
        hands = [one[0] for one in queue]
        if row[1] in hands:
            queue.pop(hands.index(row[1]))


def queue_of(word, name, tools, stores):
    if word == "take":
        return tools[name].queue
    if word == "put":
        return stores[name].putters
    return stores[name].getters


def replay_goods(row, tools, stores):
    word = row[2]
    if word == "takes":
        hand_out(tools[row[3]], row[1], row[4])
    elif word == "gives":
        hand_in(tools[row[3]], row[1], row[4])
    elif word in ("puts", "brings"):
        stores[row[3]].level = stores[row[3]].level + row[4]
    elif word == "gets":
        stores[row[3]].level = stores[row[3]].level - row[4]


def waits(log):
    told = []
    standing = {}
    for row in log:
        if row[2] == "queues":
            standing.setdefault((row[1], row[3], row[4]), []).append(len(told))
            told.append((row[1], row[3], row[4], row[5], row[0], None))
        elif row[2] in ASKED:
            places = standing.get((row[1], ASKED[row[2]], row[3]), [])
            if places:
                at = places.pop(0)
                told[at] = told[at][:5] + (row[0],)
    return told


# A piece counts at each moment from the one when it is taken, so a row tells at once what it adds until the end.
def used(program, log, tool, until):
    rows = [row for row in log if row[2] in ("takes", "gives") and row[3] == tool]
    return sum([signed(row) * max(0, until - row[0]) for row in rows])


def signed(row):
    if row[2] == "takes":
        return row[4]
    return -row[4]


def stood(log, name, until):
    return sum([lasted(one, until) for one in waits(log) if one[2] == name])


def lasted(wait, until):
    end = until
    if wait[5] is not None:
        end = min(until, wait[5])
    return max(0, end - wait[4])
