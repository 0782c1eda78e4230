"""Goods: the tools and stores of a program, and who has and awaits what."""


class Tool:
    def __init__(self, count):
        self.free = count
        self.held = {}
        self.queue = []


class Store:
    def __init__(self, level, most):
        self.level = level
        self.most = most
        self.getters = []
        self.putters = []


class Goods:
    def __init__(self, program):
        self.by_tool = tools_of(program)
        self.by_store = stores_of(program)

    def take(self, hand, name, n):
        tool = self.by_tool[name]
        if tool.queue or tool.free < n:
            tool.queue.append((hand, n))
            return False
        hand_out(tool, hand, n)
        return True

    def give(self, hand, name, n):
        tool = self.by_tool[name]
        given = min(n, tool.held.get(hand, 0))
        hand_in(tool, hand, given)
        return (given, serve_takers(tool))

    def put(self, hand, name, n):
        store = self.by_store[name]
        if store.putters or store.level + n > store.most:
            store.putters.append((hand, n))
            return (False, [])
        store.level = store.level + n
        return (True, serve_by_turns(store))

    def get(self, hand, name, n):
        store = self.by_store[name]
        if store.getters or store.level < n:
            store.getters.append((hand, n))
            return (False, [])
        store.level = store.level - n
        return (True, serve_by_turns(store))

    def bring(self, name, n):
        store = self.by_store[name]
        brought = max(0, min(n, store.most - store.level))
        store.level = store.level + brought
        return (brought, serve_by_turns(store))

    def leave(self, hand):
        left = []
        for name in list(self.by_tool):
            n = self.by_tool[name].held.get(hand, 0)
            if n > 0:
                given, served = self.give(hand, name, n)
                left.append((name, given, served))
        return left

    def tools(self):
        return [told_tool(tool) for tool in self.by_tool.values()]

    def stores(self):
        return [told_store(store) for store in self.by_store.values()]

    def stand(self, tools, stores):
        for tool, told in zip(self.by_tool.values(), tools):
            tool.free = told[0]
            tool.held = dict(told[1])
            tool.queue = list(told[2])
        for store, told in zip(self.by_store.values(), stores):
            store.level = told[0]
            store.getters = list(told[1])
            store.putters = list(told[2])


def tools_of(program):
    return dict([(name, Tool(count)) for name, count in program[0]])


def stores_of(program):
    return dict([(name, Store(level, most)) for name, level, most in program[1]])


def told_tool(tool):
    return (tool.free, sorted([(hand, n) for hand, n in tool.held.items() if n > 0]), list(tool.queue))


def told_store(store):
    return (store.level, list(store.getters), list(store.putters))


def hand_out(tool, hand, n):
    tool.free = tool.free - n
    tool.held[hand] = tool.held.get(hand, 0) + n


def hand_in(tool, hand, n):
    hand_out(tool, hand, -n)


def serve_takers(tool):
    served = []
    while tool.queue and tool.queue[0][1] <= tool.free:
        hand, n = tool.queue.pop(0)
        hand_out(tool, hand, n)
        served.append((hand, "takes", n))
    return served


def serve_by_turns(store):
    served = []
    while True:
        if store.getters and store.getters[0][1] <= store.level:
            hand, n = store.getters.pop(0)
            store.level = store.level - n
            served.append((hand, "gets", n))
        elif store.putters and store.level + store.putters[0][1] <= store.most:
            hand, n = store.putters.pop(0)
            store.level = store.level + n
            served.append((hand, "puts", n))
        else:
            return served
