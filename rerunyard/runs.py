"""Runs until a moment, kept runs, and kept runs run anew."""

from rerunyard.agendas import HeapAgenda
from rerunyard.machine import CodeYard
from rerunyard.parts import copied, frozen
from rerunyard.yards import with_more_left


def run_until(yard, until):
    moment = yard.next_moment()
    while moment is not None and moment <= until:
        yard.step()
        moment = yard.next_moment()
    return end_of(yard)


def end_of(yard):
    if yard.end() is not None:
        return yard.end()
    if yard.next_moment() is None:
        return ("done",)
    return ("until",)


def kept_run(program, outer, until):
    yard = CodeYard(program, outer, HeapAgenda())
    marks = []
    run_marked(yard, until, 0, marks, lambda mark: False)
    return (copied(outer), until, yard.log(), end_of(yard), marks)


def rerun(program, kept, outer):
    anew, begun, joined = run_anew(program, kept, outer)
    return (anew[2], anew[3], begun, joined)


# Lays down a mark for each moment; rows is how long the log was where the yard was taken up. Tells the moment at
# which the run was left because it joins another one there, None where it went to its end.
def run_marked(yard, until, rows, marks, joins):
    last = None
    moment = yard.next_moment()
    while moment is not None and moment <= until:
        if moment != last:
            mark = (moment, yard.kept(), rows + yard.logged())
            if joins(mark):
                return moment
            marks.append(mark)
            last = moment
        yard.step()
        moment = yard.next_moment()
    return None


# Tells the kept run as it is with the other list from without, and where it was begun and joined.
def run_anew(program, kept, outer):
    old_outer, until, log, end, marks = kept
    changed = moments_changed(frozen(old_outer), frozen(outer))
    if not changed:
        return ((copied(outer), until, list(log), end, list(marks)), None, None)
    more = len(outer) - len(old_outer)
    ahead = [mark for mark in marks if mark[0] <= min(changed)]
    yard = CodeYard(program, outer, HeapAgenda())
    begun, rows = take_up(yard, ahead, more)
    new_marks = [(mark[0], with_more_left(mark[1], more), mark[2]) for mark in ahead[:-1]]
    standings = dict([(mark[0], mark[1]) for mark in marks if mark[0] > max(changed)])
    joined = run_marked(yard, until, rows, new_marks, lambda mark: standings.get(mark[0]) == mark[1])
    new_log = log[:rows] + yard.log()
    if joined is None:
        return ((copied(outer), until, new_log, end_of(yard), new_marks), begun, None)
    left = [mark for mark in marks if mark[0] >= joined]
    shift = len(new_log) - left[0][2]
    new_marks.extend([(mark[0], mark[1], mark[2] + shift) for mark in left])
    return ((copied(outer), until, new_log + log[left[0][2]:], end, new_marks), begun, joined)


def take_up(yard, ahead, more):
    if not ahead:
        return (None, 0)
    moment, standing, rows = ahead[-1]
    yard.stand(with_more_left(standing, more))
    return (moment, rows)


def moments_changed(old, new):
    shorter = min(len(old), len(new))
    first = 0
    while first < shorter and old[first] == new[first]:
        first = first + 1
    last = 0
    while last < shorter - first and old[len(old) - 1 - last] == new[len(new) - 1 - last]:
        last = last + 1
    return [thing[0] for thing in old[first:len(old) - last] + new[first:len(new) - last]]
