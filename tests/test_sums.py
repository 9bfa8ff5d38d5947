"""The sums: against the document's words reckoned once more, and by what promises 2 to 5 say of them."""

import unittest
from fractions import Fraction

from helper import GLASSES, Piece, any_system, call, expected, parts, shifted, spoken, sums, system_text

F = Fraction
SINGLET = [Piece("surface", 0, "crown", F(1, 10)), Piece("surface", 1, "air", F(-1, 10))]
STOPPED = [
    Piece("surface", F(1, 2), "crown", F(1, 7), F(-1, 2), clear="4"),
    Piece("surface", F(1, 3), "flint", F(-1, 9), radius=True),
    Piece("surface", F(1, 4), "air", 0, F(5)),
    Piece("stop", 1, clear="1/2"),
    Piece("surface", 0, "water", F(-2, 5), F(3, 2), radius=True),
    Piece("surface", 2, "air", F(1, 6)),
]
ONE_MIRROR = [Piece("mirror", 2, curve=F(-1, 8), conic=-1)]
TWO_MIRRORS = ONE_MIRROR + [Piece("mirror", 3, curve=F(1, 5), conic=F(-3, 4), clear="2")]
THREE_MIRRORS = TWO_MIRRORS + [Piece("mirror", 1, curve=0), Piece("stop", 1)]
MIRROR_IN_GLASS = [
    Piece("surface", 1, "crown", F(1, 6)),
    Piece("mirror", 1, curve=F(-1, 7), conic=F(1, 2)),
    Piece("stop", F(1, 2)),
    Piece("surface", F(1, 2), "flint", F(1, 6), F(-2)),
    Piece("mirror", 1, curve=F(1, 3)),
    Piece("surface", F(1, 5), "air", F(-1, 4)),
]
SYSTEMS = (SINGLET, STOPPED, ONE_MIRROR, TWO_MIRRORS, THREE_MIRRORS, MIRROR_IN_GLASS)
RAYS = (F(1), F(1, 20), F(-1, 3), F(1, 10))


def combined(rays, e):
    y, v, z, w = rays
    return (y, v, z + e * y, w + e * v)


def larger(pieces, k):
    return [
        Piece(piece.word, piece.gap * k, piece.into, piece.curve / k, piece.conic, piece.clear)
        for piece in pieces
    ]


class Ordinary(unittest.TestCase):
    def test_each_system_on_each_line(self):
        for pieces in SYSTEMS:
            for line in range(3):
                with self.subTest(pieces=SYSTEMS.index(pieces), line=line):
                    wanted = expected("air", pieces, line, RAYS)
                    self.assertEqual(len(wanted), 7)
                    self.assertEqual(sums(line, system_text("air", pieces), RAYS), wanted)

    def test_light_that_comes_in_glass(self):
        for line in range(3):
            wanted = expected("flint", STOPPED, line, RAYS)
            self.assertEqual(sums(line, system_text("flint", STOPPED), RAYS), wanted)

    def test_many_systems(self):
        answered = 0
        refused = 0
        for seed in range(600):
            start, pieces, line, rays = any_system(seed)
            wanted = expected(start, pieces, line, rays)
            with self.subTest(seed=seed):
                self.assertEqual(sums(line, system_text(start, pieces), rays), wanted)
            answered += len(wanted) == 7
            refused += wanted == [-5]
        self.assertGreater(answered, 300)
        self.assertGreater(refused, 10)

    def test_how_numbers_are_told(self):
        text = "glass a:1,1,1;start a;mirror m after 0 curve 1/2;"
        self.assertEqual(spoken(call(0, text, ("2", "0", "0", "0"))), "-4 0 0 0 0 0 0")
        self.assertEqual(spoken(call(0, text, ("2", "0", "0", "1"))), "-4 -4 -4 4 0 0 0")
        self.assertEqual(spoken(call(0, text, ("3.0", "0", "-0", "00"))), "-81/4 0 0 0 0 0 0")

    def test_no_element(self):
        for rays in (RAYS, (0, 0, 0, 0)):
            self.assertEqual(sums(2, system_text("air", []), rays), [0] * 7)

    def test_stops_alone_have_sums_of_zero_even_for_a_marginal_ray_along_the_axis(self):
        text = system_text("air", [Piece("stop", 0), Piece("stop", 5, clear="1")])
        self.assertEqual(sums(0, text, (1, 0, 0, 1)), [0] * 7)
        self.assertEqual(sums(0, text, (0, 0, 0, 0)), [0] * 7)

    def test_clear_bears_on_nothing(self):
        wide = [Piece(p.word, p.gap, p.into, p.curve, p.conic) for p in STOPPED]
        narrow = [Piece(p.word, p.gap, p.into, p.curve, p.conic, "1/1000") for p in STOPPED]
        self.assertEqual(
            sums(1, system_text("air", wide), RAYS),
            sums(1, system_text("air", narrow), RAYS),
        )

    def test_radius_is_one_by_the_curve(self):
        self.assertEqual(
            sums(0, "glass a:1,1,1;start a;mirror m after 1 radius -5/2;", RAYS),
            sums(0, "glass a:1,1,1;start a;mirror m after 1 curve -0.4;", RAYS),
        )

    def test_a_plane_has_no_conic(self):
        flat = "glass a:1,1,1;glass b:2,2,2;start a;surface s after 1 into b {};"
        plain = sums(0, flat.format("flat"), RAYS)
        self.assertEqual(sums(0, flat.format("flat conic -7"), RAYS), plain)
        self.assertEqual(sums(0, flat.format("curve 0 conic 3"), RAYS), plain)

    def test_a_mirror_alone_by_hand(self):
        # Light along the axis on a sphere: a = c y, D = 2 c y, so S1 = -2 c c c y y y y.
        text = "glass a:1,1,1;start a;mirror m after 0 curve 1/2{};"
        self.assertEqual(sums(0, text.format(""), (3, 0, 0, 0)), [F(-81, 4), 0, 0, 0, 0, 0, 0])
        # A parabola has none.
        self.assertEqual(sums(0, text.format(" conic -1"), (3, 0, 0, 0)), [0] * 7)

    def test_mirrors_have_no_colour(self):
        for pieces in (ONE_MIRROR, TWO_MIRRORS, THREE_MIRRORS):
            self.assertEqual(sums(0, system_text("flint", pieces), RAYS)[5:], [0, 0])

    def test_colour_is_of_lines_one_and_two_on_every_line(self):
        glasses = dict(GLASSES, crown=(F(9, 5), F(31, 20), F(29, 20)))
        for line in range(3):
            self.assertEqual(
                sums(line, system_text("air", SINGLET, glasses), RAYS),
                expected("air", SINGLET, line, RAYS, glasses),
            )


class NoSums(unittest.TestCase):
    def test_a_is_nought_at_one_of_many(self):
        before = [Piece("surface", 0, "crown", F(1, 10)), Piece("stop", 1)]
        y, v = parts("air", before, 0, RAYS)[1][:2]
        head_on = Piece("surface", 0, "air", -v / (GLASSES["crown"][0] * y))
        text = system_text("air", before + [head_on, Piece("surface", 1, "flint", 1)])
        self.assertEqual(sums(0, text, RAYS), [-5])
        self.assertNotEqual(sums(1, text, RAYS), [-5])

    def test_along_the_axis_onto_a_plane(self):
        text = "glass a:1,1,1;start a;{} after 1 {};"
        self.assertEqual(sums(0, text.format("mirror m", "flat"), (1, 0, 0, 1)), [-5])
        self.assertEqual(sums(0, text.format("surface s", "into a flat"), (1, 0, 0, 1)), [-5])
        self.assertEqual(sums(0, text.format("surface s", "into a curve 1"), (1, -1, 0, 1)), [0] * 7)

    def test_behind_a_mirror_a_has_the_signed_index(self):
        # Behind the mirror v is -1 and y is 1/2: n c y is 1 for the curve -2 with n = -1.
        text = "glass a:1,1,1;start a;mirror m after 0 curve -1/2;mirror k after 1/2 curve {};"
        self.assertEqual(sums(0, text.format("-2"), (1, 0, 0, 1)), [-5])
        self.assertEqual(len(sums(0, text.format("2"), (1, 0, 0, 1))), 7)

    def test_the_chief_ray_may_be_head_on(self):
        text = "glass a:1,1,1;start a;mirror m after 0 curve 1;"
        self.assertEqual(len(sums(0, text, (1, 1, 1, -1))), 7)


class Promises(unittest.TestCase):
    def test_two_shifted_rays(self):
        for pieces in SYSTEMS:
            text = system_text("air", pieces)
            found = sums(1, text, RAYS)
            for e in (F(0), F(1, 2), F(-3), F(7, 5)):
                self.assertEqual(sums(1, text, combined(RAYS, e)), shifted(found, e))

    def test_three_larger_rays_by_fourth_powers_and_colour_by_second(self):
        for pieces in SYSTEMS:
            text = system_text("air", pieces)
            found = sums(0, text, RAYS)
            for f in (F(3), F(-2, 7)):
                wanted = [f ** 4 * x for x in found[:5]] + [f ** 2 * x for x in found[5:]]
                self.assertEqual(sums(0, text, [f * ray for ray in RAYS]), wanted)

    def test_three_larger_systems_by_their_size(self):
        y, v, z, w = RAYS
        for pieces in SYSTEMS:
            found = sums(2, system_text("air", pieces), RAYS)
            for k in (F(10), F(3, 8)):
                text = system_text("air", larger(pieces, k))
                self.assertEqual(sums(2, text, (k * y, v, k * z, w)), [k * x for x in found])

    def test_four_the_field_hangs_on_no_stop_and_no_object(self):
        petzval = F(1, 10) * (F(2, 3) - 1) - F(1, 10) * (1 - F(2, 3))
        with_stop = [SINGLET[0], Piece("stop", F(1, 4)), Piece("surface", F(3, 4), "air", F(-1, 10))]
        for pieces in (SINGLET, with_stop):
            for rays in (RAYS, (5, 2, -3, 7), (1, 0, 0, 1)):
                y, v, z, w = [F(ray) for ray in rays]
                found = sums(0, system_text("air", pieces), rays)
                self.assertEqual(found[3], -petzval * (v * z - w * y) ** 2)

    def test_four_and_five_a_stop_changes_nothing(self):
        without = [Piece("surface", 1, "crown", F(1, 6)), Piece("surface", 3, "air", F(-1, 5), F(2))]
        with_stop = [Piece("stop", 1), Piece("surface", 0, "crown", F(1, 6)), Piece("stop", 1),
                     Piece("stop", 1), Piece("surface", 1, "air", F(-1, 5), F(2)), Piece("stop", 9)]
        self.assertEqual(
            sums(0, system_text("air", without), RAYS),
            sums(0, system_text("air", with_stop), RAYS),
        )

    def test_five_all_is_the_parts_together(self):
        for cut in range(len(STOPPED) + 1):
            front, back = STOPPED[:cut], STOPPED[cut:]
            between = parts("air", front, 0, RAYS)[1]
            medium = ([p.into for p in front if p.into] or ["air"])[-1]
            first = sums(0, system_text("air", front), RAYS)
            second = sums(0, system_text(medium, back), between)
            self.assertEqual(
                [x + y for x, y in zip(first, second)],
                sums(0, system_text("air", STOPPED), RAYS),
            )


if __name__ == "__main__":
    unittest.main()
