"""A system's text read into a system, or refused for its first fault."""

from thirdsums.digits import POINT, pointed_value, whole_value
from thirdsums.exact import ONE, ZERO, negative, over
from thirdsums.refusals import Fault
from thirdsums.tokens import token_from

MOST = 64
NO_TOKEN = 1
CANNOT_STAND = 2
NAME_TAKEN = 3
NO_SUCH_GLASS = 4
TOO_MANY = 5
BAD_NUMBER = 6


# What light meets: word is surface, mirror or stop; glass holds the three indices
# behind a surface, and is None for the others.
class Element:
    def __init__(self, word, gap, glass, curve, conic):
        self.word = word
        self.gap = gap
        self.glass = glass
        self.curve = curve
        self.conic = conic


class System:
    def __init__(self, medium, path):
        self.medium = medium
        self.path = path


# Holds one token at a time, so that nothing behind a fault is looked at.
class Reader:
    def __init__(self, text):
        self.text = text
        self.token = token_from(text, 0)

    def sees(self, kind):
        return self.token[0] == kind

    def piece(self):
        return self.text[self.token[1]:self.token[2]]

    def refuse(self, kind):
        raise Fault(self.token[1], kind)

    def expect(self, kinds):
        if self.sees("none"):
            self.refuse(NO_TOKEN)
        if self.token[0] not in kinds:
            self.refuse(CANNOT_STAND)

    def step(self):
        self.token = token_from(self.text, self.token[2])

    def take(self, kind):
        self.expect((kind,))
        piece = self.piece()
        self.step()
        return piece


def read_pointed(reader):
    piece = reader.take("pointed")
    point = piece.index(POINT)
    return pointed_value(piece[:point], piece[point + 1:])


def read_number(reader):
    reader.expect(("whole", "pointed"))
    if reader.sees("pointed"):
        return read_pointed(reader)
    top = whole_value(reader.take("whole"))
    if not reader.sees("/"):
        return (top, 1)
    reader.step()
    reader.expect(("whole",))
    bottom = whole_value(reader.piece())
    if bottom == 0:
        reader.refuse(BAD_NUMBER)
    reader.step()
    return over((top, 1), (bottom, 1))


def read_value(reader):
    if not reader.sees("-"):
        return read_number(reader)
    reader.step()
    return negative(read_number(reader))


# What can stand behind a number is asked first: at one place the lesser fault is told.
def refuse_number_before(reader, refused, behind):
    reader.expect(behind)
    if refused:
        reader.refuse(BAD_NUMBER)


def read_index(reader, mark):
    index = read_number(reader)
    refuse_number_before(reader, index[0] < index[1], (mark,))
    reader.step()
    return index


def read_new_name(reader, names):
    reader.expect(("name",))
    if tuple(reader.piece()) in names:
        reader.refuse(NAME_TAKEN)
    return tuple(reader.take("name"))


def read_known_glass(reader, glasses):
    reader.expect(("name",))
    if tuple(reader.piece()) not in glasses:
        reader.refuse(NO_SUCH_GLASS)
    return glasses[tuple(reader.take("name"))]


def read_glass(reader, glasses):
    if len(glasses) == MOST:
        reader.refuse(TOO_MANY)
    reader.step()
    name = read_new_name(reader, glasses)
    reader.take(":")
    indices = []
    for mark in (",", ",", ";"):
        indices.append(read_index(reader, mark))
    glasses[name] = tuple(indices)


def read_glasses(reader):
    glasses = {}
    reader.expect(("glass",))
    while reader.sees("glass"):
        read_glass(reader, glasses)
        reader.expect(("glass", "start"))
    return glasses


def read_curve(reader):
    reader.expect(("flat", "curve", "radius"))
    if reader.sees("flat"):
        reader.step()
        return ZERO
    if reader.sees("curve"):
        reader.step()
        return read_value(reader)
    reader.step()
    radius = read_value(reader)
    refuse_number_before(reader, radius[0] == 0, ("conic", "clear", ";"))
    return over(ONE, radius)


def read_conic(reader):
    if not reader.sees("conic"):
        return ZERO
    reader.step()
    return read_value(reader)


# How far light is let through bears on no sum: it is looked at for faults alone.
def pass_clear(reader):
    if reader.sees("clear"):
        reader.step()
        clear = read_number(reader)
        refuse_number_before(reader, clear[0] == 0, (";",))


def read_element(reader, glasses, names):
    if len(names) == MOST:
        reader.refuse(TOO_MANY)
    word = reader.token[0]
    reader.step()
    names[read_new_name(reader, names)] = True
    reader.take("after")
    gap = read_number(reader)
    glass = None
    curve = ZERO
    conic = ZERO
    if word == "surface":
        reader.take("into")
        glass = read_known_glass(reader, glasses)
    if word != "stop":
        curve = read_curve(reader)
        conic = read_conic(reader)
    pass_clear(reader)
    reader.take(";")
    return Element(word, gap, glass, curve, conic)


def read_path(reader, glasses):
    names = {}
    path = []
    reader.expect(("surface", "mirror", "stop", "end"))
    while not reader.sees("end"):
        path.append(read_element(reader, glasses, names))
        reader.expect(("surface", "mirror", "stop", "end"))
    return path


def read_system(text):
    reader = Reader(text)
    glasses = read_glasses(reader)
    reader.take("start")
    medium = read_known_glass(reader, glasses)
    reader.take(";")
    return System(medium, read_path(reader, glasses))
