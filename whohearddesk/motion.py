"""Points on the line, stations that move along it, and when one hears of a point."""

from whohearddesk.ratio import add, divide, fraction, greater_of, half, multiply, subtract


# A point is kept as its time less place (minus) and its time and place together
# (plus): light to the right keeps the first, light to the left the second, so
# hearing needs no more.
class Point:
    def __init__(self, minus, plus):
        self.minus = minus
        self.plus = plus


# Time and place, where its clock shows 0, stay whole numbers, as they are told again.
class Station:
    def __init__(self, time, place, factor):
        self.time = time
        self.place = place
        self.factor = factor


def start_of(station):
    minus = fraction(station.time - station.place, 1)
    plus = fraction(station.time + station.place, 1)
    return Point(minus, plus)


def point_at(station, clock):
    start = start_of(station)
    minus = add(start.minus, divide(clock, station.factor))
    plus = add(start.plus, multiply(clock, station.factor))
    return Point(minus, plus)


def clock_by_minus(station, point):
    gone = subtract(point.minus, start_of(station).minus)
    return multiply(gone, station.factor)


def clock_by_plus(station, point):
    gone = subtract(point.plus, start_of(station).plus)
    return divide(gone, station.factor)


def hears(station, point):
    return greater_of(clock_by_minus(station, point), clock_by_plus(station, point))


def time_of(point):
    return half(add(point.plus, point.minus))


def place_of(point):
    return half(subtract(point.plus, point.minus))
