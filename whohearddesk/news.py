"""The calls that tell who knows what, and from when on: promise 4.

Each takes the desk and its whole numbers and answers a list; refusals are
asked in the order in which the promise tells them.
"""

from whohearddesk.desk import has_fact, has_station
from whohearddesk.knowing import could_know, facts_known, first_heard, first_known
from whohearddesk.limits import is_clock_number
from whohearddesk.ratio import fraction, subtract
from whohearddesk.refusals import NEVER, NO_SUCH, OUT_OF_RANGE


def counted(facts):
    return [len(facts)] + facts


def has_both(state, i, f):
    return has_station(state, i) and has_fact(state, f)


def known(desk, i, n, d):
    if not has_station(desk.state, i):
        return [NO_SUCH]
    if not is_clock_number(n, d):
        return [OUT_OF_RANGE]
    return counted(facts_known(desk.state, i, fraction(n, d)))


def could(desk, i, n, d):
    state = desk.state
    if not has_station(state, i):
        return [NO_SUCH]
    if not is_clock_number(n, d):
        return [OUT_OF_RANGE]
    clock = fraction(n, d)
    return counted([f for f in range(len(state.facts)) if could_know(state, i, f, clock)])


def first(desk, i, f):
    if not has_both(desk.state, i, f):
        return [NO_SUCH]
    return [0] + list(first_heard(desk.state, i, f))


def knew(desk, i, f):
    if not has_both(desk.state, i, f):
        return [NO_SUCH]
    clock = first_known(desk.state, i, f)
    if clock is None:
        return [NEVER]
    return [0] + list(clock)


def late(desk, i, f):
    if not has_both(desk.state, i, f):
        return [NO_SUCH]
    clock = first_known(desk.state, i, f)
    if clock is None:
        return [NEVER]
    return [0] + list(subtract(clock, first_heard(desk.state, i, f)))


def never(desk, i):
    state = desk.state
    if not has_station(state, i):
        return [NO_SUCH]
    return counted([f for f in range(len(state.facts)) if first_known(state, i, f) is None])


NEWS = {13: known, 14: could, 15: first, 16: knew, 17: late, 21: never}
