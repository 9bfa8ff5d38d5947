"""The calls."""

from thirdsums.digits import handed_over
from thirdsums.field import petzval_sum
from thirdsums.offset import offsets
from thirdsums.parts import single_part, sums_of
from thirdsums.reading import read_system
from thirdsums.refusals import Fault, NoElement, NotTaken, NotThere, TooLarge
from thirdsums.shifting import shifted_sums
from thirdsums.stations import stations_of
from thirdsums.telling import told

LAST_LINE = 2
MOST_TEXT_BYTES = 65536


def refuse_sizes(line, t):
    if line > LAST_LINE or len(t) > MOST_TEXT_BYTES:
        raise NotTaken()


# What a call has reckoned of the system's stations and the numbers handed over, told;
# or why it is refused. The steps stand in the order in which refusals are told.
def answered(line, t, texts, reckon):
    try:
        refuse_sizes(line, t)
        numbers = [handed_over(text) for text in texts]
        stations = stations_of(read_system(t), line)
        return told(reckon(stations, numbers))
    except NotTaken:
        return [-1]
    except Fault as fault:
        return [-3, fault.place, fault.kind]
    except NoElement:
        return [-2]
    except NotThere:
        return [-5]
    except TooLarge:
        return [-6]


def sums(line, t, y, v, z, w):
    return answered(line, t, [y, v, z, w], sums_of)


def part(line, i, t, y, v, z, w):
    return answered(line, t, [y, v, z, w], lambda stations, rays: single_part(stations, rays, i))


def shift(line, t, y, v, z, w, e):
    return answered(line, t, [y, v, z, w, e], lambda stations, given: shifted_sums(stations, given[:4], given[4]))


def off(line, t, y, v, z, w, p, q, h):
    texts = [y, v, z, w, p, q, h]
    return answered(line, t, texts, lambda stations, given: offsets(stations, given[:4], given[4:]))


def petzval(line, t):
    return answered(line, t, [], lambda stations, given: [petzval_sum(stations)])
