"""The document's promises over the whole program, by what its five calls answer together.

The systems are any; what each call says of chosen ones stands in its own tests, and point 6 in test_real_rays.
"""

import random
import unittest
from fractions import Fraction

from helper import (
    AIR, GLASSES, Piece, any_number, any_system, call, call_off, call_part, call_petzval, call_shift, last_mirror,
    long_glasses, long_surfaces, off, offset, one_part, parts, petzval, shift, shifted, sums, system_text, telescopes,
    together,
)
from test_sums import combined, larger

F = Fraction
ALONG = ("1", "0", "0", "0")
WIDE = telescopes(1400)
LAST = len(WIDE) + 1
# The last mirror has its centre in the focus of the one before; or it makes all too large; or no telescope is there.
MET = system_text("a", WIDE + last_mirror(1) + last_mirror(2, 5), AIR)
LARGE = system_text("a", WIDE + last_mirror(1) + last_mirror(3, 5), AIR)
PLAIN = system_text("a", last_mirror(1) + last_mirror(3, 5), AIR)


class Asked:
    """A system with its rays, and what the calls answer of it."""

    def __init__(self, start, pieces, line, rays):
        self.start = start
        self.pieces = pieces
        self.line = line
        self.rays = rays
        self.text = system_text(start, pieces)
        self.sums = sums(line, self.text, rays)
        self.angle = parts(start, pieces, line, rays)[1][1]
        y, v, z, w = rays
        self.between = v * z - w * y

    def parts(self):
        return [one_part(self.line, i, self.text, self.rays) for i in range(len(self.pieces))]

    def shift(self, e):
        return shift(self.line, self.text, self.rays, e)

    def off(self, turn):
        return off(self.line, self.text, self.rays, turn)

    def petzval(self):
        return petzval(self.line, self.text)[0]

    def with_rays(self, rays):
        return Asked(self.start, self.pieces, self.line, rays)

    def with_pieces(self, pieces, rays=None):
        return Asked(self.start, pieces, self.line, rays or self.rays)


def some():
    """Systems whose sums are there and whose V is not 0, each with numbers for e, p, q, h and another."""
    found = []
    for seed in range(3000, 3150):
        asked = Asked(*any_system(seed, 7))
        chance = random.Random(seed)
        if len(asked.sums) == 7 and asked.angle != 0:
            numbers = [any_number(chance, 12) for place in range(4)]
            found.append((asked, numbers, 1 + any_number(chance, 5, below=False)))
    return found


SOME = some()


class One(unittest.TestCase):
    """From an input at which all could be told, mended step by step, the refusals come in their order."""

    def steps(self, cases, refusals):
        self.assertEqual([answer[0] for answer in cases[:-1]], refusals)
        self.assertGreater(cases[-1][0], 0)

    def test_sums(self):
        self.steps([
            call(3, MET + "!", ALONG), call(0, MET + "!", ("1", "0", "0", "x")), call(0, MET + "!", ALONG),
            call(0, MET, ALONG), call(0, LARGE, ALONG), call(0, PLAIN, ALONG),
        ], [-1, -1, -3, -5, -6])

    def test_part(self):
        self.steps([
            call_part(3, LAST + 1, MET + "!", ALONG), call_part(0, LAST + 1, MET + "!", ("1", "", "0", "0")),
            call_part(0, LAST + 1, MET + "!", ALONG), call_part(0, LAST + 1, MET, ALONG),
            call_part(0, LAST, MET, ALONG), call_part(0, LAST, LARGE, ALONG), call_part(0, 1, PLAIN, ALONG),
        ], [-1, -1, -3, -2, -5, -6])

    def test_shift(self):
        self.steps([
            call_shift(3, MET + "!", ALONG, "1"), call_shift(0, MET + "!", ALONG, "1/0"),
            call_shift(0, MET + "!", ALONG, "1"), call_shift(0, MET, ALONG, "1"), call_shift(0, LARGE, ALONG, "1"),
            call_shift(0, PLAIN, ALONG, "1"),
        ], [-1, -1, -3, -5, -6])

    def test_off(self):
        turn = ("1", "2", "3")
        self.steps([
            call_off(3, MET + "!", ALONG, turn), call_off(0, MET + "!", ALONG, ("1", "2", "+3")),
            call_off(0, MET + "!", ALONG, turn), call_off(0, MET, ALONG, turn), call_off(0, LARGE, ALONG, turn),
            call_off(0, PLAIN, ALONG, turn),
        ], [-1, -1, -3, -5, -6])

    def test_petzval(self):
        text = system_text("a", long_surfaces(60), long_glasses(60))
        self.steps([
            call_petzval(3, text + "!"), call_petzval(0, text + "!" * 65536), call_petzval(0, text + "!"),
            call_petzval(0, text), call_petzval(0, PLAIN),
        ], [-1, -1, -3, -6])


class TwoToFive(unittest.TestCase):
    def test_there_are_enough_systems(self):
        self.assertGreater(len(SOME), 80)
        words = [piece.word for asked, numbers, k in SOME for piece in asked.pieces]
        self.assertGreater(min(words.count(word) for word in ("surface", "mirror", "stop")), 40)
        mirrors = {sum(piece.word == "mirror" for piece in asked.pieces) for asked, numbers, k in SOME}
        self.assertEqual(mirrors & {0, 1, 2, 3}, {0, 1, 2, 3})
        self.assertEqual({asked.line for asked, numbers, k in SOME}, {0, 1, 2})
        self.assertEqual({asked.start for asked, numbers, k in SOME}, set(GLASSES))

    def test_two_shifted_sums_are_the_shifted_rays_sums(self):
        for asked, (e, p, q, h), k in SOME:
            self.assertEqual(asked.shift(e), asked.with_rays(combined(asked.rays, e)).sums)
            self.assertEqual(asked.shift(e), shifted(asked.sums, e))

    def test_two_they_say_the_same_of_the_same_real_rays(self):
        # Of the marginal ray there is less by what the chief ray has taken.
        for asked, (e, p, q, h), k in SOME:
            wanted = asked.off((p, q, h))
            self.assertEqual(offset(asked.shift(e), asked.angle, p, q - e * h, h), wanted)
            self.assertEqual(asked.with_rays(combined(asked.rays, e)).off((p, q - e * h, h)), wanted)

    def test_three_larger_rays_by_fourth_powers(self):
        for asked, (e, p, q, h), f in SOME:
            scales = [f ** 4] * 5 + [f ** 2] * 2
            many = asked.with_rays([f * ray for ray in asked.rays])
            self.assertEqual(many.sums, [x * y for x, y in zip(scales, asked.sums)])
            self.assertEqual(many.shift(e), [x * y for x, y in zip(scales, asked.shift(e))])
            self.assertEqual(many.parts(), [[x * y for x, y in zip(scales, part)] for part in asked.parts()])
            # Over V, which grows as the rays do.
            self.assertEqual(many.off((p, q, h)), [f ** 3 * x for x in asked.off((p, q, h))])
            self.assertEqual(many.off((p, q, h)), asked.off((f * p, f * q, f * h)))

    def test_three_larger_systems_by_their_size(self):
        for asked, (e, p, q, h), k in SOME:
            y, v, z, w = asked.rays
            many = asked.with_pieces(larger(asked.pieces, k), (k * y, v, k * z, w))
            self.assertEqual(many.sums, [k * x for x in asked.sums])
            self.assertEqual(many.shift(e), [k * x for x in asked.shift(e)])
            self.assertEqual(many.parts(), [[k * x for x in part] for part in asked.parts()])
            self.assertEqual(many.off((p, q, h)), [k * x for x in asked.off((p, q, h))])
            self.assertEqual(many.petzval() * k, asked.petzval())

    def test_four_s4_is_less_petzvals_sum_times_l_squared(self):
        for asked, (e, p, q, h), k in SOME:
            wanted = -asked.petzval() * asked.between ** 2
            self.assertEqual(asked.sums[3], wanted)
            self.assertEqual(asked.shift(e)[3], wanted)
            # Another object, another stop: the rays change, Petzval's sum doesn't.
            other = asked.with_rays((p, q, h, e))
            if len(other.sums) == 7:
                self.assertEqual(other.sums[3], -asked.petzval() * other.between ** 2)

    def test_four_and_five_stops_bear_on_nothing(self):
        for asked, (e, p, q, h), k in SOME:
            stopped = []
            for piece in asked.pieces:
                stopped += [Piece("stop", piece.gap / 3, clear="1/7"), Piece("stop", 0)]
                stopped.append(Piece(piece.word, piece.gap * 2 / 3, piece.into, piece.curve, piece.conic))
            other = asked.with_pieces(stopped + [Piece("stop", k)])
            self.assertEqual(other.sums, asked.sums)
            self.assertEqual(other.shift(e), asked.shift(e))
            self.assertEqual(other.off((p, q, h)), asked.off((p, q, h)))
            self.assertEqual(other.petzval(), asked.petzval())
            self.assertEqual(other.parts()[2::3], asked.parts())
            self.assertEqual(other.parts()[0::3], [[0] * 7] * (len(asked.pieces) + 1))

    def test_five_all_is_the_parts_together(self):
        for asked, (e, p, q, h), k in SOME:
            found = together(asked.parts())
            self.assertEqual(asked.sums, found)
            self.assertEqual(asked.shift(e), shifted(found, e))
            self.assertEqual(asked.off((p, q, h)), offset(found, asked.angle, p, q, h))
            self.assertEqual(-asked.petzval() * asked.between ** 2, found[3])


if __name__ == "__main__":
    unittest.main()
