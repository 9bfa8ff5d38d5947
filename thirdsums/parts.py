"""Two rays through a system, the part of each element, and the sums.

Everything is reckoned in whole numbers, on scales that are chosen before the rays are
followed: heights and angles are told times the length scale, and what a station says
of itself times the station's own scale. Fractions in least terms would be as exact,
but to bring their terms down at every step takes far longer than all else.
"""

from thirdsums.exact import common_divisor
from thirdsums.refusals import NoElement, NotThere


# The product of all that a step divides by: so each division on the way comes out even.
def length_scale(stations, rays):
    scale = 1
    for number in rays:
        scale *= number[1]
    for station in stations:
        scale *= station.walk[1] * station.before[1] * station.behind[1]
    return scale


def least_multiple(scales):
    multiple = 1
    for scale in scales:
        multiple *= scale // common_divisor(multiple, scale)
    return multiple


def station_scale(station):
    return least_multiple([station.square[1], station.bend[1], station.conic[1], station.colour[1]])


def on_scale(number, scale):
    return number[0] * (scale // number[1])


# Where a ray meets a station: its height there, and its incidence times the index.
# The latter is one on both sides, and leads from the angle before to the one behind.
def follow(stations, height, angle):
    meetings = []
    for station in stations:
        height += station.walk[0] * angle // station.walk[1]
        incidence = angle + station.before[0] * height // station.before[1]
        meetings.append((height, incidence))
        angle = incidence - station.behind[0] * height // station.behind[1]
    return meetings


# In S5 stands, for q (q q A + P), what is left of it when L is put in as a z - b y:
# nothing is divided by a there.
def shaped_part(station, y, a, z, b):
    scale = station_scale(station)
    square = on_scale(station.square, scale)
    bend = on_scale(station.bend, scale)
    conic = on_scale(station.conic, scale) * y
    colour = on_scale(station.colour, scale) * y
    core = y * (bend * y - square * a)
    invariant = a * z - b * y
    return [
        a * a * core + conic * y * (y * y),
        a * b * core + conic * y * (y * z),
        b * b * core + conic * y * (z * z),
        -bend * invariant * invariant,
        b * (bend * z * (2 * b * y - a * z) - square * y * (b * b)) + conic * z * (z * z),
        a * colour,
        b * colour,
    ]


# S1 to S5 on the fourth power of the length scale, C1 and C2 on its square, all on the
# station's own scale too.
def part_of(station, marginal, chief):
    if station.stop:
        return [0, 0, 0, 0, 0, 0, 0]
    if marginal[1] == 0:
        raise NotThere()
    return shaped_part(station, marginal[0], marginal[1], chief[0], chief[1])


# Of each station where the marginal ray meets it, and where the chief ray does.
def meetings_of(stations, lengths, rays):
    begun = [on_scale(number, lengths) for number in rays]
    marginal = follow(stations, begun[0], begun[1])
    chief = follow(stations, begun[2], begun[3])
    return list(zip(marginal, chief))


def add_parts(parts, scales, common):
    totals = [0, 0, 0, 0, 0, 0, 0]
    for part, scale in zip(parts, scales):
        factor = common // scale
        totals = [total + number * factor for total, number in zip(totals, part)]
    return totals


# Seven pairs of a numerator and a denominator, not yet in least terms.
def as_pairs(numbers, lengths, scale):
    second = lengths * lengths
    bottoms = [second * second * scale] * 5 + [second * scale] * 2
    return list(zip(numbers, bottoms))


def sums_of(stations, rays):
    lengths = length_scale(stations, rays)
    meetings = meetings_of(stations, lengths, rays)
    parts = [part_of(station, at[0], at[1]) for station, at in zip(stations, meetings)]
    scales = [station_scale(station) for station in stations]
    common = least_multiple(scales)
    return as_pairs(add_parts(parts, scales, common), lengths, common)


# What stands behind the station asked for bears on its part in nothing: the rays are
# not followed so far.
def single_part(stations, rays, i):
    if i >= len(stations):
        raise NoElement()
    reached = stations[:i + 1]
    lengths = length_scale(reached, rays)
    at = meetings_of(reached, lengths, rays)[i]
    return as_pairs(part_of(stations[i], at[0], at[1]), lengths, station_scale(stations[i]))
