"""Petzval's sum: how the field is curved, whatever rays there are."""

from thirdsums.exact import ZERO, plus


# A stop's bend is 0, and no gap bears on any: neither has to be looked at.
def petzval_sum(stations):
    total = ZERO
    for station in stations:
        total = plus(total, station.bend)
    return total
