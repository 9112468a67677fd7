"""The calls that only look at what there is: promise 3, and state of promise 1.

Each takes the desk and its whole numbers and answers a list.
"""

from whohearddesk.desk import has_fact, has_letter, has_station
from whohearddesk.knowing import facts_known
from whohearddesk.motion import place_of, time_of
from whohearddesk.refusals import NO_SUCH


def is_station(desk, i):
    if not has_station(desk.state, i):
        return [NO_SUCH]
    station = desk.state.stations[i]
    return [0, station.time, station.place] + list(station.factor)


def factis(desk, f):
    if not has_fact(desk.state, f):
        return [NO_SUCH]
    fact = desk.state.facts[f]
    return [fact.station] + list(fact.when)


def letteris(desk, m):
    if not has_letter(desk.state, m):
        return [NO_SUCH]
    letter = desk.state.letters[m]
    return [letter.sender, letter.receiver] + list(letter.sent)


def where(desk, f):
    if not has_fact(desk.state, f):
        return [NO_SUCH]
    point = desk.state.facts[f].point
    return [0] + list(time_of(point)) + list(place_of(point))


def comes(desk, m):
    if not has_letter(desk.state, m):
        return [NO_SUCH]
    return [0] + list(desk.state.letters[m].arrives)


def in_letter(desk, m):
    if not has_letter(desk.state, m):
        return [NO_SUCH]
    letter = desk.state.letters[m]
    known = facts_known(desk.state, letter.sender, letter.sent)
    return [len(known)] + known


def state(desk):
    now = desk.state
    return [len(now.stations), len(now.facts), len(now.letters), len(desk.past)]


LOOKS = {7: is_station, 8: factis, 9: letteris, 10: where, 11: comes, 12: in_letter, 24: state}
