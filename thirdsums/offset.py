"""Off: how far from the first-order image a ray comes, in third powers."""

from thirdsums.exact import ZERO
from thirdsums.parts import follow, least_multiple, length_scale, on_scale, sums_of
from thirdsums.refusals import NotThere
from thirdsums.stations import Station


# A stop put behind all bends no ray: what it is met with is the angle behind all, also
# where there is no element.
def last_angle(stations, rays):
    lengths = length_scale(stations, rays)
    height = on_scale(rays[0], lengths)
    angle = on_scale(rays[1], lengths)
    met = follow(stations + [Station(True, ZERO)], height, angle)[-1]
    return (met[1], lengths)


def across(s, a, b, h):
    return s[0] * (a * a + b * b) * a + 2 * s[1] * a * b * h + (s[2] + s[3]) * a * h * h


def along(s, a, b, h):
    return (
        s[0] * (a * a + b * b) * b
        + s[1] * (a * a + 3 * b * b) * h
        + (3 * s[2] + s[3]) * b * h * h
        + s[4] * h * h * h
    )


# S1 to S5 stand over one denominator; a, b and h are brought over one of their own. Both
# answers are of third power in a, b, h.
def offsets(stations, rays, turns):
    found = sums_of(stations, rays)
    angle = last_angle(stations, rays)
    if angle[0] == 0:
        raise NotThere()
    tops = [pair[0] for pair in found]
    scale = least_multiple([number[1] for number in turns])
    a = on_scale(turns[0], scale)
    b = on_scale(turns[1], scale)
    h = on_scale(turns[2], scale)
    bottom = found[0][1] * (scale * scale * scale) * 2 * angle[0]
    return [(across(tops, a, b, h) * angle[1], bottom), (along(tops, a, b, h) * angle[1], bottom)]
