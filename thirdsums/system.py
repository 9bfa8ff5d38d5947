"""The calls."""

from thirdsums.digits import handed_over
from thirdsums.parts import sums_of
from thirdsums.reading import read_system
from thirdsums.refusals import Fault, NoSums, NotTaken, TooLarge
from thirdsums.stations import stations_of
from thirdsums.telling import told

LAST_LINE = 2
MOST_TEXT_BYTES = 65536


def refuse_sizes(line, t):
    if line > LAST_LINE or len(t) > MOST_TEXT_BYTES:
        raise NotTaken()


def reckon_sums(line, t, rays):
    refuse_sizes(line, t)
    numbers = [handed_over(text) for text in rays]
    stations = stations_of(read_system(t), line)
    return told(sums_of(stations, numbers))


def sums(line, t, y, v, z, w):
    try:
        return reckon_sums(line, t, [y, v, z, w])
    except NotTaken:
        return [-1]
    except Fault as fault:
        return [-3, fault.place, fault.kind]
    except NoSums:
        return [-5]
    except TooLarge:
        return [-6]
