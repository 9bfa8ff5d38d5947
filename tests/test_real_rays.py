"""Promise 6: real rays, followed as power series in e, come where the sums and off say.

A series is a list of five fractions, the coefficients of 1, e, e e, e e e, e e e e.
"""

import unittest
from fractions import Fraction

from helper import Piece, any_system, crossings, off, offset, parts, shift, sums, system_text
from test_sums import SYSTEMS

F = Fraction
TERMS = 5
RAYS = (F(1), F(1, 20), F(-1, 3), F(1, 10))
TURNS = ((0, 1, 0), (1, 0, 0), (0, 0, 1), (0, 1, 1), (1, 0, 1), (1, 2, -3), (F(2, 3), F(-1, 2), F(5, 4)))


def series(*numbers):
    return [F(number) for number in numbers] + [F(0)] * (TERMS - len(numbers))


def add(*many):
    return [sum(column, F(0)) for column in zip(*many)]


def scale(number, x):
    return [number * c for c in x]


def mul(x, y):
    return [sum((x[i] * y[n - i] for i in range(n + 1)), F(0)) for n in range(TERMS)]


def inverse(x):
    found = [1 / x[0]]
    for n in range(1, TERMS):
        found.append(-sum((x[i] * found[n - i] for i in range(1, n + 1)), F(0)) / x[0])
    return found


def root(x, first):
    """The root of x that begins with the number first."""
    found = [F(first)]
    for n in range(1, TERMS):
        rest = sum((found[i] * found[n - i] for i in range(1, n)), F(0))
        found.append((x[n] - rest) / (2 * found[0]))
    return found


def begin(a, b, h, rays, n):
    y, v, z, w = rays
    slopes = [series(0, a * v / n), series(0, (b * v + h * w) / n)]
    forward = scale(n, inverse(root(add(series(1), mul(slopes[0], slopes[0]), mul(slopes[1], slopes[1])), 1)))
    point = [series(0, a * y), series(0, b * y + h * z)]
    return point, [mul(slopes[0], forward), mul(slopes[1], forward), forward]


def walk(point, way, depth):
    forward = inverse(way[2])
    return [add(point[i], mul(depth, mul(way[i], forward))) for i in range(2)]


def meet(piece, point, way):
    """Where the ray meets the element, from where it crosses the plane at the vertex."""
    depth = series(0)
    for turn in range(4):
        at = walk(point, way, depth)
        bulge = scale(1 + piece.conic, mul(depth, depth))
        depth = scale(piece.curve / 2, add(mul(at[0], at[0]), mul(at[1], at[1]), bulge))
    return walk(point, way, depth), depth


def bend(piece, at, depth, way, n, m):
    """The way behind the element: what lies along the surface stays, the length becomes the index."""
    c = piece.curve
    normal = [
        scale(-c, at[0]), scale(-c, at[1]), add(series(1), scale(-c * (1 + piece.conic), depth)),
    ]
    along = add(*[mul(way[i], normal[i]) for i in range(3)])
    square = add(*[mul(normal[i], normal[i]) for i in range(3)])
    inner = add(mul(along, along), scale(m * m - n * n, square))
    grown = mul(add(root(inner, m), scale(F(-1), along)), inverse(square))
    return [add(way[i], mul(grown, normal[i])) for i in range(3)]


def follow(start, pieces, line, rays, turn):
    found = crossings(start, pieces, line)
    point, way = begin(*turn, rays, found[0][2][line])
    for piece, gap, before, behind in found:
        point = walk(point, way, series(gap))
        if piece.word == "stop":
            continue
        at, depth = meet(piece, point, way)
        way = bend(piece, at, depth, way, before[line], behind[line])
        point = walk(at, way, scale(F(-1), depth))
    return point, way, found[-1][3][line]


class RealRays(unittest.TestCase):
    def check(self, start, pieces, line, rays, found=None):
        y, v, z, w = parts(start, pieces, line, rays)[1]
        text = system_text(start, pieces)
        found = found or sums(line, text, rays)
        for a, b, h in TURNS:
            point, way, n = follow(start, pieces, line, rays, (a, b, h))
            image = walk(point, way, series(-y * n / v))
            self.assertEqual([x[1] for x in image], [0, h * (z - y * w / v)])
            self.assertEqual([(x[0], x[2], x[4]) for x in image], [(0, 0, 0), (0, 0, 0)])
            third = [x[3] for x in image]
            self.assertEqual(offset(found, v, a, b, h), third)
            self.assertEqual(off(line, text, rays, (a, b, h)), third)

    def test_each_system_on_each_line(self):
        for pieces in SYSTEMS:
            for line in range(3):
                with self.subTest(pieces=SYSTEMS.index(pieces), line=line):
                    self.check("air", pieces, line, RAYS)

    def test_wherever_the_stop_stands(self):
        lens = [Piece("surface", 1, "flint", F(1, 4), F(-2)), Piece("surface", 1, "air", F(-1, 6), F(1, 2))]
        for chief in ((F(0), F(1, 7)), (F(2), F(1, 7)), (F(-1), F(0))):
            self.check("air", lens, 0, (F(1), F(1, 9)) + chief)

    def test_shifted_sums_say_the_same_of_the_same_rays(self):
        # h of the shifted chief ray holds e h of the marginal one.
        for pieces in SYSTEMS:
            text = system_text("air", pieces)
            angle = parts("air", pieces, 1, RAYS)[1][1]
            plain = sums(1, text, RAYS)
            for e in (F(1, 2), F(-3), F(7, 5)):
                found = shift(1, text, RAYS, e)
                for a, b, h in TURNS:
                    self.assertEqual(offset(found, angle, a, b, h), offset(plain, angle, a, b + e * h, h))

    def test_real_rays_come_where_shifted_sums_say(self):
        y, v, z, w = RAYS
        for pieces in SYSTEMS:
            for e in (F(1, 2), F(-3)):
                self.check("air", pieces, 0, (y, v, z + e * y, w + e * v), shift(0, system_text("air", pieces), RAYS, e))

    def test_many_systems(self):
        answered = 0
        for seed in range(60):
            start, pieces, line, rays = any_system(seed, 5)
            found = sums(line, system_text(start, pieces), rays)
            if pieces and len(found) == 7 and parts(start, pieces, line, rays)[1][1] != 0:
                self.check(start, pieces, line, rays, found)
                answered += any(found[:5])
        self.assertGreater(answered, 25)

    def test_stops_put_in_change_nothing(self):
        lens = [Piece("surface", 1, "flint", F(1, 4), F(-2)), Piece("surface", 2, "air", F(-1, 6), F(1, 2))]
        stopped = [
            Piece("stop", F(1, 2), clear="1"), Piece("surface", F(1, 2), "flint", F(1, 4), F(-2)), Piece("stop", 1),
            Piece("surface", 1, "air", F(-1, 6), F(1, 2)), Piece("stop", 3),
        ]
        self.check("air", stopped, 2, RAYS)
        for turn in TURNS:
            self.assertEqual(off(2, system_text("air", stopped), RAYS, turn), off(2, system_text("air", lens), RAYS, turn))

    def test_light_that_comes_in_glass(self):
        self.check("water", SYSTEMS[1], 0, RAYS)


if __name__ == "__main__":
    unittest.main()
