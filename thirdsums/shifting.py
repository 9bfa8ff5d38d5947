"""Shifted sums: the chief ray takes e times the marginal one."""

from thirdsums.exact import plus, times
from thirdsums.parts import sums_of


# The rays are shifted, not the sums: the shifted rays' sums are the shifted sums, and no
# power of e has to be brought onto the sums' scales.
def shifted_sums(stations, rays, e):
    height = plus(rays[2], times(e, rays[0]))
    angle = plus(rays[3], times(e, rays[1]))
    return sums_of(stations, [rays[0], rays[1], height, angle])
