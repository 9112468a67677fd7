"""What is known, and what could be known, at a station when its clock shows a number; and from when on."""

from whohearddesk.motion import hears
from whohearddesk.ratio import at_most, lesser_of


# A moment is a pair: a station's number and its clock's. Those behind one are itself
# and all from which letters have brought there what was known.
def moments_behind(state, station, clock):
    # Where stations meet, letters there and back are in one another: each letter
    # is followed once, or the search would not end.
    followed = {}
    moments = [(station, clock)]
    place = 0
    while place < len(moments):
        moment = moments[place]
        for m, letter in enumerate(state.letters):
            if m not in followed and has_come(letter, moment):
                followed[m] = True
                moments.append((letter.sender, letter.sent))
        place += 1
    return moments


def has_come(letter, moment):
    return letter.receiver == moment[0] and at_most(letter.arrives, moment[1])


def came_to_be(fact, moment):
    return fact.station == moment[0] and at_most(fact.when, moment[1])


def facts_known(state, station, clock):
    moments = moments_behind(state, station, clock)
    known = []
    for f, fact in enumerate(state.facts):
        if any([came_to_be(fact, moment) for moment in moments]):
            known.append(f)
    return known


def first_known(state, station, f):
    # It becomes known only where it came to be, or when a letter comes that has it.
    fact = state.facts[f]
    least = None
    if fact.station == station:
        least = fact.when
    for letter in state.letters:
        if letter.receiver == station and f in facts_known(state, letter.sender, letter.sent):
            least = letter.arrives if least is None else lesser_of(least, letter.arrives)
    return least


def first_heard(state, station, f):
    return hears(state.stations[station], state.facts[f].point)


def could_know(state, station, f, clock):
    return at_most(first_heard(state, station, f), clock)
