"""What one object keeps: its state, and the states it can be taken back to."""

MOST_BACK = 10


# No station goes while a fact or letter of it stays, so where a fact came to be and
# when a letter arrives are found once, when they are made.
class Fact:
    def __init__(self, station, when, point):
        self.station = station
        self.when = when
        self.point = point


class Letter:
    def __init__(self, sender, receiver, sent, arrives):
        self.sender = sender
        self.receiver = receiver
        self.sent = sent
        self.arrives = arrives


# Claims are counted, not kept: one is judged when it's made, and never again.
class State:
    def __init__(self):
        self.stations = []
        self.facts = []
        self.letters = []
        self.claims = 0
        self.impossible = 0


# The state is None before a begin. The past holds the states ahead of the last
# changes, so that each can be taken back whole.
class Desk:
    def __init__(self):
        self.state = None
        self.past = []


def copy_of(state):
    # Stations, facts and letters are never changed once made, so both may hold them.
    new = State()
    new.stations = list(state.stations)
    new.facts = list(state.facts)
    new.letters = list(state.letters)
    new.claims = state.claims
    new.impossible = state.impossible
    return new


def start_change(desk):
    # The state that was is kept untouched among the past ones: the change is made on a copy.
    desk.past = (desk.past + [desk.state])[-MOST_BACK:]
    desk.state = copy_of(desk.state)
    return desk.state


def take_back(desk):
    desk.state = desk.past[-1]
    desk.past = desk.past[:-1]


def has_station(state, i):
    return 0 <= i < len(state.stations)


def has_fact(state, f):
    return 0 <= f < len(state.facts)


def has_letter(state, m):
    return 0 <= m < len(state.letters)
