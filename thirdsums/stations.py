"""What each element of a system does to rays near the axis, on one of the three lines."""

from thirdsums.exact import ONE, ZERO, minus, negative, over, times


# What rays ask of an element, in exact fractions. They are reckoned once and serve both
# rays: walk is the gap before it by the index there; before and behind are its curve
# times the index on either side; square is what 1 by the index's square grows by there,
# bend what 1 by the index does, times the curve; conic is K, colour E.
class Station:
    def __init__(self, stop, walk):
        self.stop = stop
        self.walk = walk
        self.before = ZERO
        self.behind = ZERO
        self.square = ZERO
        self.bend = ZERO
        self.conic = ZERO
        self.colour = ZERO


# Lines 1 and 2 tell colour on every line. A mirror turns the sign of all three indices
# and so leaves this as it was: it is taken from the indices above 0.
def spread(medium, line):
    return over(minus(medium[1], medium[2]), medium[line])


def squared(x):
    return times(x, x)


def shape_station(station, element, n, m):
    curve = element.curve
    station.before = times(n, curve)
    station.behind = times(m, curve)
    station.square = minus(over(ONE, squared(m)), over(ONE, squared(n)))
    station.bend = times(curve, minus(over(ONE, m), over(ONE, n)))
    station.conic = times(times(element.conic, times(curve, squared(curve))), minus(m, n))


# The gap and the index before an element turn their signs together behind a mirror:
# their quotient is above 0 on either way.
def stations_of(system, line):
    stations = []
    medium = system.medium
    back = False
    for element in system.path:
        n = negative(medium[line]) if back else medium[line]
        station = Station(element.word == "stop", over(element.gap, medium[line]))
        if element.word == "mirror":
            back = not back
            shape_station(station, element, n, negative(n))
        if element.word == "surface":
            m = negative(element.glass[line]) if back else element.glass[line]
            shape_station(station, element, n, m)
            station.colour = minus(spread(element.glass, line), spread(medium, line))
            medium = element.glass
        stations.append(station)
    return stations
