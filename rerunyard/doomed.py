"""The doomed: hands that stand in tools' queues and can never go on, and why."""


def doomed(view):
    lost = {}
    for tool in view[2]:
        for hand, n in tool[2]:
            lost[hand] = True
    before = len(lost) + 1
    while len(lost) < before:
        before = len(lost)
        for tool in view[2]:
            free_some(tool, lost)
    return sorted(lost)


# Takes out of the lost those of one queue that are freed as things stand.
def free_some(tool, lost):
    for hand, n in tool[2]:
        if hand in lost:
            if n > pieces_of(tool) - pieces_lost(tool, lost):
                break
            lost.pop(hand)


def pieces_of(tool):
    return tool[0] + sum([n for hand, n in tool[1]])


def pieces_lost(tool, lost):
    return sum([n for hand, n in tool[1] if hand in lost])


def why(view, hand):
    return reason(view[2], doomed(view), hand)


def reason(tools, lost, hand):
    for place, tool in enumerate(tools):
        queue = [one[0] for one in tool[2]]
        if hand in queue:
            at = queue.index(hand)
            n = tool[2][at][1]
            if n > pieces_of(tool):
                return ("more", place, n)
            others = queue[:at] + [one[0] for one in tool[1]]
            return ("by", place, min([other for other in others if other in lost]))
    return None


def chain(view, hand):
    lost = doomed(view)
    told = [hand]
    cause = reason(view[2], lost, hand)
    while cause[0] == "by":
        again = cause[2] in told
        told.append(cause[2])
        if again:
            return told
        cause = reason(view[2], lost, cause[2])
    return told
