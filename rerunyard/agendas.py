"""Agendas: things kept for moments, the least moment first, among alike moments the one put first."""


class ListAgenda:
    def __init__(self):
        self.things = []

    def put(self, moment, thing):
        at = len(self.things)
        while at > 0 and self.things[at - 1][0] > moment:
            at = at - 1
        self.things.insert(at, (moment, thing))

    def first(self):
        if not self.things:
            return None
        return self.things[0][0]

    def take(self):
        return self.things.pop(0)

    def in_order(self):
        return list(self.things)

    def stand(self, kept):
        self.things = []
        for moment, thing in kept:
            self.put(moment, thing)


# A heap by itself forgets which of two alike moments was put first, so each thing bears its turn.
class HeapAgenda:
    def __init__(self):
        self.heap = []
        self.turn = 0

    def put(self, moment, thing):
        self.turn = self.turn + 1
        self.heap.append((moment, self.turn, thing))
        rise(self.heap)

    def first(self):
        if not self.heap:
            return None
        return self.heap[0][0]

    def take(self):
        moment, turn, thing = self.heap[0]
        last = self.heap.pop()
        if self.heap:
            self.heap[0] = last
            sink(self.heap)
        return (moment, thing)

    def in_order(self):
        return [(moment, thing) for moment, turn, thing in sorted(self.heap)]

    def stand(self, kept):
        self.heap = []
        for moment, thing in kept:
            self.put(moment, thing)


def rise(heap):
    at = len(heap) - 1
    while at > 0 and heap[at] < heap[(at - 1) // 2]:
        swap(heap, at, (at - 1) // 2)
        at = (at - 1) // 2


def sink(heap):
    at = 0
    least = least_of_three(heap, at)
    while least != at:
        swap(heap, at, least)
        at = least
        least = least_of_three(heap, at)


def least_of_three(heap, at):
    least = at
    for below in (2 * at + 1, 2 * at + 2):
        if below < len(heap) and heap[below] < heap[least]:
            least = below
    return least


def swap(heap, one, other):
    kept = heap[one]
    heap[one] = heap[other]
    heap[other] = kept
