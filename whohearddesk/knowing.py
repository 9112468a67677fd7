"""What is known, and what could be known, at a station when its clock shows a number."""

from whohearddesk.motion import hears
from whohearddesk.ratio import at_most


# A moment is a pair: a station's number and its clock's. Those behind one are itself
# and all from which letters have brought there what was known.
def moments_behind(state, station, clock):
    # Where stations meet, letters there and back are in one another: each letter
    # is followed once, or the search would not end.
    followed = {}
    moments = [(station, clock)]
    place = 0
    while place < len(moments):
        moment = moments[place]
        for m, letter in enumerate(state.letters):
            if m not in followed and has_come(letter, moment):
                followed[m] = True
                moments.append((letter.sender, letter.sent))
        place += 1
    return moments


def has_come(letter, moment):
    return letter.receiver == moment[0] and at_most(letter.arrives, moment[1])


def came_to_be(fact, moment):
    return fact.station == moment[0] and at_most(fact.when, moment[1])


def facts_known(state, station, clock):
    moments = moments_behind(state, station, clock)
    known = []
    for f, fact in enumerate(state.facts):
        if any([came_to_be(fact, moment) for moment in moments]):
            known.append(f)
    return known


def could_know(state, station, f, clock):
    heard = hears(state.stations[station], state.facts[f].point)
    return at_most(heard, clock)
