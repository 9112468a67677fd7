"""Points on the line, stations that move along it, and when one hears of a point."""

from whohearddesk.ratio import add, at_most, divide, fraction, greater_of, half, lesser_of, multiply, subtract

THERE = 0
ON_THE_RIGHT = 1
ON_THE_LEFT = 2


# A point is kept as its time less place (minus) and its time and place together
# (plus): light to the right keeps the first, light to the left the second, so
# hearing needs no more.
class Point:
    def __init__(self, minus, plus):
        self.minus = minus
        self.plus = plus


# Time and place, where its clock shows 0, stay whole numbers, as they are told again.
class Station:
    def __init__(self, time, place, factor):
        self.time = time
        self.place = place
        self.factor = factor


def start_of(station):
    minus = fraction(station.time - station.place, 1)
    plus = fraction(station.time + station.place, 1)
    return Point(minus, plus)


def point_at(station, clock):
    start = start_of(station)
    minus = add(start.minus, divide(clock, station.factor))
    plus = add(start.plus, multiply(clock, station.factor))
    return Point(minus, plus)


def clock_by_minus(station, point):
    gone = subtract(point.minus, start_of(station).minus)
    return multiply(gone, station.factor)


def clock_by_plus(station, point):
    gone = subtract(point.plus, start_of(station).plus)
    return divide(gone, station.factor)


def hears(station, point):
    return greater_of(clock_by_minus(station, point), clock_by_plus(station, point))


def till(station, point):
    return lesser_of(clock_by_minus(station, point), clock_by_plus(station, point))


def own_time(station, point):
    return half(add(hears(station, point), till(station, point)))


def own_place(station, point):
    return half(subtract(hears(station, point), till(station, point)))


def side(station, point):
    by_minus = clock_by_minus(station, point)
    by_plus = clock_by_plus(station, point)
    if by_minus == by_plus:
        return THERE
    if at_most(by_minus, by_plus):
        return ON_THE_RIGHT
    return ON_THE_LEFT


def can_have_heard(point, other):
    # Light from the other has come there both ways, or just comes.
    return at_most(other.minus, point.minus) and at_most(other.plus, point.plus)


def time_of(point):
    return half(add(point.plus, point.minus))


def place_of(point):
    return half(subtract(point.plus, point.minus))
