"""The calls that tell what was sooner, and for whom, and the book of claims: promise 5.

Each takes the desk and its whole numbers and answers a list.
"""

from whohearddesk.desk import has_fact, has_station
from whohearddesk.motion import can_have_heard, own_place, own_time, side
from whohearddesk.ratio import at_most
from whohearddesk.refusals import NO_SUCH

SOONER = 0
SAME_TIME = 1
LATER = 2
HEARD_BY_SECOND = 0
SAME_POINT = 1
HEARD_BY_FIRST = 2
HEARD_BY_NEITHER = 3


def own(desk, i, f):
    state = desk.state
    if not (has_station(state, i) and has_fact(state, f)):
        return [NO_SUCH]
    station = state.stations[i]
    point = state.facts[f].point
    return [side(station, point)] + list(own_time(station, point)) + list(own_place(station, point))


def sooner(desk, i, f, g):
    state = desk.state
    if not (has_station(state, i) and has_fact(state, f) and has_fact(state, g)):
        return [NO_SUCH]
    f_time = own_time(state.stations[i], state.facts[f].point)
    g_time = own_time(state.stations[i], state.facts[g].point)
    if f_time == g_time:
        return [SAME_TIME]
    if at_most(f_time, g_time):
        return [SOONER]
    return [LATER]


def heard(desk, f, g):
    state = desk.state
    if not (has_fact(state, f) and has_fact(state, g)):
        return [NO_SUCH]
    f_point = state.facts[f].point
    g_point = state.facts[g].point
    by_second = can_have_heard(g_point, f_point)
    by_first = can_have_heard(f_point, g_point)
    # Only points that are one are each within hearing of the other.
    if by_second and by_first:
        return [SAME_POINT]
    if by_second:
        return [HEARD_BY_SECOND]
    if by_first:
        return [HEARD_BY_FIRST]
    return [HEARD_BY_NEITHER]


def book(desk):
    return [desk.state.claims, desk.state.impossible]


ORDER = {18: own, 19: sooner, 20: heard, 22: book}
