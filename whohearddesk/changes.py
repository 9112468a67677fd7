"""The calls that begin, change and take back: promises 1 and 2.

Each takes the desk and its whole numbers and answers a list; refusals are
asked in the order in which the promise tells them.
"""

from whohearddesk.desk import Fact, Letter, State, has_fact, has_station, start_change, take_back
from whohearddesk.knowing import could_know, facts_known
from whohearddesk.limits import is_clock_number, is_factor_part, is_near
from whohearddesk.motion import Station, hears, point_at
from whohearddesk.ratio import fraction
from whohearddesk.refusals import NONE_LEFT, NO_SUCH, OUT_OF_RANGE, TOO_MANY

MOST_STATIONS = 4
MOST_FACTS = 6
MOST_LETTERS = 6
IMPOSSIBLE = 0
POSSIBLE = 1
KNOWN = 2


def begin(desk):
    desk.state = State()
    desk.past = []
    return [0]


def back(desk):
    if len(desk.past) == 0:
        return [NONE_LEFT]
    take_back(desk)
    return [len(desk.past)]


def station(desk, t, x, p, q):
    if not (is_near(t) and is_near(x) and is_factor_part(p) and is_factor_part(q)):
        return [OUT_OF_RANGE]
    if len(desk.state.stations) >= MOST_STATIONS:
        return [TOO_MANY]
    state = start_change(desk)
    state.stations.append(Station(t, x, fraction(p, q)))
    return [len(state.stations) - 1]


def fact(desk, i, n, d):
    if not has_station(desk.state, i):
        return [NO_SUCH]
    if not is_clock_number(n, d):
        return [OUT_OF_RANGE]
    if len(desk.state.facts) >= MOST_FACTS:
        return [TOO_MANY]
    state = start_change(desk)
    when = fraction(n, d)
    state.facts.append(Fact(i, when, point_at(state.stations[i], when)))
    return [len(state.facts) - 1]


def letter(desk, i, j, n, d):
    if not (has_station(desk.state, i) and has_station(desk.state, j)):
        return [NO_SUCH]
    if i == j or not is_clock_number(n, d):
        return [OUT_OF_RANGE]
    if len(desk.state.letters) >= MOST_LETTERS:
        return [TOO_MANY]
    state = start_change(desk)
    sent = fraction(n, d)
    arrives = hears(state.stations[j], point_at(state.stations[i], sent))
    state.letters.append(Letter(i, j, sent, arrives))
    return [len(state.letters) - 1]


def unfact(desk):
    if len(desk.state.facts) == 0:
        return [NONE_LEFT]
    state = start_change(desk)
    state.facts.pop()
    return [len(state.facts)]


def unletter(desk):
    if len(desk.state.letters) == 0:
        return [NONE_LEFT]
    state = start_change(desk)
    state.letters.pop()
    return [len(state.letters)]


def judge(state, i, f, clock):
    if f in facts_known(state, i, clock):
        return KNOWN
    if could_know(state, i, f, clock):
        return POSSIBLE
    return IMPOSSIBLE


def claim(desk, i, f, n, d):
    if not (has_station(desk.state, i) and has_fact(desk.state, f)):
        return [NO_SUCH]
    if not is_clock_number(n, d):
        return [OUT_OF_RANGE]
    state = start_change(desk)
    verdict = judge(state, i, f, fraction(n, d))
    state.claims += 1
    if verdict == IMPOSSIBLE:
        state.impossible += 1
    return [verdict]


CHANGES = {0: begin, 1: station, 2: fact, 3: letter, 4: unfact, 5: unletter, 6: claim, 23: back}
