"""What the tests share: calls with plain texts, and the document's numbers reckoned once more by its own words."""

import random
from fractions import Fraction

from thirdsums import system

RUN = (
    "glass air:1,1,1;glass g:3/2,31/20,29/20;start air;"
    "surface a after 0 into g curve 1/10;surface b after 1 into air curve -1/10;"
)
RAYS = ("1", "0", "0", "1/10")
GLASSES = {
    "air": (Fraction(1), Fraction(1), Fraction(1)),
    "crown": (Fraction(3, 2), Fraction(31, 20), Fraction(29, 20)),
    "flint": (Fraction(8, 5), Fraction(17, 10), Fraction(7, 5)),
    "water": (Fraction(4, 3), Fraction(27, 20), Fraction(13, 10)),
}
AIR = {"a": (Fraction(1), Fraction(1), Fraction(1))}
LONGEST = 65536
BAD_TEXT = "glass a:1,1,1;start a;stop s after 0;stop s after 0;"
BAD_TEXT_FAULT = [-3, BAD_TEXT.rindex("s after"), 3]
HEAD_ON = "glass a:1,1,1;start a;mirror m after 1 flat;"


def octets(text):
    return list(text.encode("latin-1"))


def call(line, text, rays):
    return system.sums(line, octets(text), *[octets(ray) for ray in rays])


def call_part(line, i, text, rays):
    return system.part(line, i, octets(text), *[octets(ray) for ray in rays])


def call_shift(line, text, rays, e):
    return system.shift(line, octets(text), *[octets(ray) for ray in rays], octets(e))


def call_off(line, text, rays, turn):
    return system.off(line, octets(text), *[octets(number) for number in (*rays, *turn)])


def call_petzval(line, text):
    return system.petzval(line, octets(text))


def spoken(answer):
    """The text of an answer that is no refusal; it must say its own length."""
    if answer[0] != len(answer) - 1:
        raise AssertionError(f"not told with its length: {answer}")
    return bytes(answer[1:]).decode("ascii")


def numbers_of(answer):
    """What is told as fractions, or the refusal as it stands."""
    if answer[0] < 0:
        return answer
    numbers = [Fraction(word) for word in spoken(answer).split(" ")]
    if spoken(answer) != " ".join([str(number) for number in numbers]):
        raise AssertionError(f"not told as exact texts: {spoken(answer)}")
    return numbers


def sums(line, text, rays):
    return numbers_of(call(line, text, [written(ray) for ray in rays]))


def one_part(line, i, text, rays):
    return numbers_of(call_part(line, i, text, [written(ray) for ray in rays]))


def shift(line, text, rays, e):
    return numbers_of(call_shift(line, text, [written(ray) for ray in rays], written(e)))


def off(line, text, rays, turn):
    return numbers_of(call_off(line, text, [written(ray) for ray in rays], [written(number) for number in turn]))


def petzval(line, text):
    return numbers_of(call_petzval(line, text))


def together(many):
    """Sevens of numbers, added number by number."""
    return [sum(column, Fraction(0)) for column in zip(*many)] or [Fraction(0)] * 7


def written(number):
    return number if isinstance(number, str) else str(Fraction(number))


class Piece:
    """An element, as a test sees it."""

    def __init__(self, word, gap, into=None, curve=0, conic=0, clear=None, radius=False):
        self.word = word
        self.gap = Fraction(gap)
        self.into = into
        self.curve = Fraction(curve)
        self.conic = Fraction(conic)
        self.clear = clear
        self.radius = radius

    def shape(self):
        if self.word == "stop":
            return ""
        if self.curve == 0:
            text = " flat"
        elif self.radius:
            text = f" radius {1 / self.curve}"
        else:
            text = f" curve {self.curve}"
        return text + (f" conic {self.conic}" if self.conic else "")

    def told(self, name):
        into = f" into {self.into}" if self.into else ""
        clear = f" clear {self.clear}" if self.clear else ""
        return f"{self.word} {name} after {self.gap}{into}{self.shape()}{clear};"


def system_text(start, pieces, glasses=None):
    rows = [f"glass {name}:{','.join(str(n) for n in three)};" for name, three in (glasses or GLASSES).items()]
    rows.append(f"start {start};")
    rows += [piece.told(f"e{i}") for i, piece in enumerate(pieces)]
    return "\n".join(rows)


def crossings(start, pieces, line, glasses=None):
    """Each element with the signed gap and the signed media before and behind it."""
    glasses = glasses or GLASSES
    sign = 1
    medium = glasses[start]
    found = []
    for piece in pieces:
        before = [sign * n for n in medium]
        gap = sign * piece.gap
        if piece.word == "mirror":
            sign = -sign
        if piece.word == "surface":
            medium = glasses[piece.into]
        found.append((piece, gap, before, [sign * n for n in medium]))
    return found


def next_angle(piece, n, m, height, angle):
    return angle - piece.curve * (m - n) * height


def part(piece, line, before, behind, y, v, z, w):
    """Word for word what the document calls an element's part; None if there is none."""
    if piece.word == "stop":
        return [Fraction(0)] * 7
    n, m, c, k = before[line], behind[line], piece.curve, piece.conic
    a = v + n * c * y
    b = w + n * c * z
    if a == 0:
        return None
    grown = next_angle(piece, n, m, y, v) / m ** 2 - v / n ** 2
    along = v * z - w * y
    q = b / a
    big = -a * a * y * grown
    field = -along * along * c * (1 / m - 1 / n)
    bulge = k * c * c * c * (m - n)
    colour = (behind[1] - behind[2]) / m - (before[1] - before[2]) / n
    return [
        big + bulge * y * y * y * y,
        q * big + bulge * y * y * y * z,
        q * q * big + bulge * y * y * z * z,
        field,
        q * (q * q * big + field) + bulge * y * z * z * z,
        a * y * colour,
        b * y * colour,
    ]


def parts(start, pieces, line, rays, glasses=None):
    y, v, z, w = [Fraction(ray) for ray in rays]
    found = []
    for piece, gap, before, behind in crossings(start, pieces, line, glasses):
        n, m = before[line], behind[line]
        y += gap * v / n
        z += gap * w / n
        found.append(part(piece, line, before, behind, y, v, z, w))
        v, w = next_angle(piece, n, m, y, v), next_angle(piece, n, m, z, w)
    return found, (y, v, z, w)


def shifted(found, e):
    """Word for word what the document calls sums shifted by e."""
    s1, s2, s3, s4, s5, c1, c2 = found
    return [
        s1,
        s2 + e * s1,
        s3 + 2 * e * s2 + e * e * s1,
        s4,
        s5 + e * (3 * s3 + s4) + 3 * e * e * s2 + e * e * e * s1,
        c1,
        c2 + e * c1,
    ]


def offset(found, angle, a, b, h):
    """Word for word what the document calls off, with the marginal ray's angle behind all."""
    s1, s2, s3, s4, s5 = found[:5]
    across = s1 * (a * a + b * b) * a + 2 * s2 * a * b * h + (s3 + s4) * a * h * h
    along = s1 * (a * a + b * b) * b + s2 * (a * a + 3 * b * b) * h + (3 * s3 + s4) * b * h * h + s5 * h * h * h
    return [across / (2 * angle), along / (2 * angle)]


def field(start, pieces, line, glasses=None):
    """Word for word what the document calls Petzval's sum."""
    total = Fraction(0)
    for piece, gap, before, behind in crossings(start, pieces, line, glasses):
        if piece.word != "stop":
            total += piece.curve * (1 / behind[line] - 1 / before[line])
    return total


def is_large(number):
    return abs(number.numerator) >= 2 ** 4096 or number.denominator >= 2 ** 4096


def told(numbers):
    """The numbers, or why they are not told; None where they are none."""
    if numbers is None:
        return [-5]
    return [-6] if any(is_large(number) for number in numbers) else numbers


def expected(start, pieces, line, rays, glasses=None, e=0):
    """The sums, shifted by e."""
    found = parts(start, pieces, line, rays, glasses)[0]
    return told(None if None in found else shifted(together(found), Fraction(e)))


def expected_parts(start, pieces, line, rays, glasses=None):
    return [told(numbers) for numbers in parts(start, pieces, line, rays, glasses)[0]]


def expected_off(start, pieces, line, rays, turn, glasses=None):
    found, ends = parts(start, pieces, line, rays, glasses)
    if None in found or ends[1] == 0:
        return told(None)
    return told(offset(together(found), ends[1], *[Fraction(number) for number in turn]))


def any_number(chance, most, below=True):
    number = Fraction(chance.randint(0, most), chance.randint(1, most))
    return -number if below and chance.random() < 0.5 else number


def any_piece(chance):
    word = chance.choice(("surface", "surface", "mirror", "stop"))
    return Piece(
        word,
        chance.choice((0, any_number(chance, 9, below=False))),
        into=chance.choice(list(GLASSES)) if word == "surface" else None,
        curve=0 if word == "stop" else chance.choice((0, any_number(chance, 9), any_number(chance, 9))),
        conic=0 if word == "stop" else chance.choice((0, any_number(chance, 5))),
        clear=chance.choice((None, "5", "1/2", "2.25")),
        radius=chance.random() < 0.5,
    )


def any_system(seed, most=6):
    """A system, a line and rays that hang on the seed alone."""
    chance = random.Random(seed)
    pieces = [any_piece(chance) for place in range(chance.randint(0, most))]
    rays = [any_number(chance, 12) for place in range(4)]
    return chance.choice(list(GLASSES)), pieces, chance.randint(0, 2), rays


def telescope(power):
    """Two parabolas with one focus: light along the axis leaves as it came, with 2 ** power times the height."""
    wide = Fraction(2) ** power
    return [
        Piece("mirror", 0, curve=-1, conic=-1),
        Piece("mirror", (1 + wide) / 2, curve=1 / wide, conic=-1),
    ]


def telescopes(power):
    """No part of these has any sum but 0 where the chief ray is the axis itself."""
    most = 50 if power > 0 else -50
    found = []
    while power != 0:
        step = most if abs(power) > 50 else power
        found += telescope(step)
        power -= step
    return found


def last_mirror(curve, conic=0):
    """Light along the axis: its S1 is -2 c c c (1 + k) y y y y."""
    return [Piece("mirror", 0, curve=curve, conic=conic)]


def long_glasses(count):
    glasses = dict(AIR)
    for i in range(count):
        index = Fraction(10 ** 17 + 60 * i + 1, 10 ** 16 + 14 * i + 3)
        glasses[f"g{i}"] = (index, Fraction(1), Fraction(2))
    return glasses


def long_surfaces(count):
    """Petzval's sum of these grows by some hundred bits with each, in numerator and denominator."""
    found = [Piece("surface", 0, f"g{i}", Fraction(1, 10 ** 17 + 36 * i + 19)) for i in range(count)]
    return found + [Piece("surface", 0, "a")]
