"""Petzval's sum: against the document's words reckoned once more, against S4, and its refusals."""

import math
import random
import unittest
from fractions import Fraction

from helper import (
    BAD_TEXT, BAD_TEXT_FAULT, HEAD_ON, LONGEST, RUN, Piece, any_number, any_system, call_petzval, field, is_large,
    long_glasses, long_surfaces, one_part, petzval, spoken, sums, system_text, told,
)
from test_sums import MIRROR_IN_GLASS, RAYS, STOPPED, SYSTEMS, larger

F = Fraction
LIMIT = 2 ** 4096


def other_gaps(pieces, chance):
    return [
        Piece(piece.word, any_number(chance, 30, below=False), piece.into, piece.curve, piece.conic, piece.clear)
        for piece in pieces
    ]


def without_stops(pieces):
    return [piece for piece in pieces if piece.word != "stop"]


def with_stops(pieces, chance):
    """A stop at each end and at some places between."""
    found = [Piece("stop", 2, clear="1/3")]
    for piece in without_stops(pieces):
        found.append(piece)
        if chance.random() < 0.5:
            found.append(Piece("stop", any_number(chance, 9, below=False)))
    return found + [Piece("stop", 0)]


# The sum's denominator has some 50 bits less than the limit: one mirror more leads to the edge.
LONG = long_surfaces(37) + [Piece("mirror", 0, curve=F(1, 2 ** 38 + 7))]
LONG_GLASSES = long_glasses(60)
LARGE = system_text("a", long_surfaces(60), LONG_GLASSES)


def long_with(curve):
    pieces = LONG + [Piece("mirror", 0, curve=curve)]
    return system_text("a", pieces, LONG_GLASSES), field("a", pieces, 0, LONG_GLASSES)


class Ordinary(unittest.TestCase):
    def test_each_system_on_each_line(self):
        self.assertEqual({sum(p.word == "mirror" for p in pieces) for pieces in SYSTEMS} & {1, 2, 3}, {1, 2, 3})
        for pieces in SYSTEMS:
            for line in range(3):
                for start in ("air", "flint"):
                    with self.subTest(pieces=SYSTEMS.index(pieces), line=line, start=start):
                        wanted = [field(start, pieces, line)]
                        self.assertEqual(petzval(line, system_text(start, pieces)), wanted)

    def test_many_systems(self):
        answers = []
        for seed in range(500):
            start, pieces, line, rays = any_system(seed, 12)
            answers += petzval(line, system_text(start, pieces))
            self.assertEqual(answers[-1], field(start, pieces, line), seed)
        self.assertGreater(len(set(answers)), 350)

    def test_lines_have_their_own(self):
        # 1 by the indices of crown are 2/3, 20/31 and 20/29.
        for line, wanted in enumerate(("-1/15", "-11/155", "-9/145")):
            self.assertEqual(spoken(call_petzval(line, RUN)), wanted)

    def test_no_element_and_stops_alone(self):
        for pieces in ([], [Piece("stop", 1)], [Piece("stop", 1), Piece("stop", 0, clear="2")]):
            for start in ("air", "flint"):
                for line in range(3):
                    self.assertEqual(spoken(call_petzval(line, system_text(start, pieces))), "0")

    def test_64_elements(self):
        for cut in (1, 63, 64):
            pieces = [
                Piece(("surface", "mirror", "surface", "stop")[i % 4], 1, ("flint", None, "air", None)[i % 4],
                      0 if i % 4 == 3 else F(i - 20, i + 1))
                for i in range(cut)
            ]
            self.assertEqual(petzval(0, system_text("water", pieces)), [field("water", pieces, 0)])


class ByHand(unittest.TestCase):
    def answers(self, rows, wanted):
        text = "glass a:1,1,1;glass b:2,4,1;start a;" + rows
        self.assertEqual(spoken(call_petzval(0, text)), wanted)

    def test_surfaces(self):
        self.answers("surface s after 1 into b curve 3;", "-3/2")
        self.answers("surface s after 1 into b radius -1/3;", "3/2")
        self.answers("surface s after 1 into b curve 3;surface t after 1 into a curve 5;", "1")
        self.answers("surface s after 1 into a curve 3;", "0")
        self.answers("surface s after 1 into b curve 3;surface t after 1 into b curve 5;", "-3/2")

    def test_mirrors(self):
        self.answers("mirror m after 1 curve 3;", "-6")
        self.answers("mirror m after 1 curve 3;mirror n after 1 curve 5;", "4")
        self.answers("mirror m after 1 curve 3;mirror n after 1 curve 5;mirror k after 1 curve 7;", "-10")
        self.answers("mirror m after 1 radius -3;", "2/3")

    def test_mirrors_in_glass(self):
        self.answers("surface s after 1 into b flat;mirror m after 1 curve 3;", "-3")
        self.answers("surface s after 1 into b flat;mirror m after 1 curve 3;mirror n after 1 curve 7;", "4")

    def test_surfaces_behind_mirrors(self):
        # From -1 to -2, and back.
        self.answers("mirror m after 1 flat;surface s after 1 into b curve 3;", "3/2")
        self.answers("mirror m after 1 flat;surface s after 1 into b curve 3;surface t after 1 into a curve 5;", "-1")
        self.answers("mirror m after 1 flat;mirror n after 1 flat;surface s after 1 into b curve 3;", "-3/2")
        self.answers("surface s after 1 into b curve 3;mirror m after 1 flat;surface t after 1 into a curve 3;", "-3")

    def test_flat_ones(self):
        self.answers("mirror m after 1 flat;", "0")
        self.answers("surface s after 1 into b flat;", "0")
        self.answers("surface s after 1 into b curve 0;mirror m after 2 curve -0.0;", "0")

    def test_conic_and_clear_bear_on_nothing(self):
        for rest in (" conic -1", " conic 7/3 clear 0.5", " clear 9"):
            self.answers(f"surface s after 1 into b curve 3{rest};", "-3/2")
            self.answers(f"mirror m after 1 curve 3{rest};", "-6")
            self.answers(f"mirror m after 1 flat{rest};", "0")


class Promises(unittest.TestCase):
    def test_three_larger_systems_have_it_less(self):
        for pieces in SYSTEMS:
            for k in (F(10), F(3, 8)):
                found = petzval(0, system_text("air", pieces))
                self.assertEqual(petzval(0, system_text("air", larger(pieces, k))), [x / k for x in found])

    def test_four_other_gaps(self):
        for seed in range(100):
            start, pieces, line, rays = any_system(seed, 10)
            other = other_gaps(pieces, random.Random(seed))
            self.assertEqual(petzval(line, system_text(start, other)), petzval(line, system_text(start, pieces)))

    def test_four_stops_put_in_and_taken_out(self):
        for seed in range(100):
            start, pieces, line, rays = any_system(seed, 10)
            found = petzval(line, system_text(start, pieces))
            stopped = with_stops(pieces, random.Random(seed))
            self.assertEqual(petzval(line, system_text(start, without_stops(pieces))), found)
            self.assertEqual(petzval(line, system_text(start, stopped)), found)

    def test_four_s4_is_less_it_times_l_squared(self):
        answered = 0
        for seed in range(300):
            start, pieces, line, rays = any_system(seed)
            text = system_text(start, pieces)
            y, v, z, w = rays
            found = sums(line, text, rays)
            if len(found) == 7:
                self.assertEqual(found[3], -petzval(line, text)[0] * (v * z - w * y) ** 2)
                answered += found[3] != 0
        self.assertGreater(answered, 100)

    def test_four_whatever_the_object(self):
        for pieces in SYSTEMS:
            text = system_text("air", pieces)
            for rays in (RAYS, (F(5), F(2), F(-3), F(7)), (F(0), F(1), F(1), F(0))):
                y, v, z, w = rays
                self.assertEqual(sums(2, text, rays)[3], -petzval(2, text)[0] * (v * z - w * y) ** 2)

    def test_five_it_is_the_elements_together(self):
        for pieces in (STOPPED, MIRROR_IN_GLASS):
            text = system_text("air", pieces)
            y, v, z, w = RAYS
            fields = [one_part(1, i, text, RAYS)[3] for i in range(len(pieces))]
            self.assertEqual(sum(fields), -petzval(1, text)[0] * (v * z - w * y) ** 2)

    def test_answered_where_rays_are_met_head_on(self):
        self.assertEqual(sums(0, RUN, (1, F(-1, 10), 0, F(1, 10))), [-5])
        self.assertEqual(petzval(0, RUN), [F(-1, 15)])
        self.assertEqual(sums(0, HEAD_ON, (1, 0, 0, 1)), [-5])
        self.assertEqual(petzval(0, HEAD_ON), [0])
        bent = HEAD_ON + "mirror n after 1 curve 5;"
        self.assertEqual(sums(0, bent, (1, 0, 0, 1)), [-5])
        self.assertEqual(petzval(0, bent), [10])
        refused = 0
        for seed in range(300):
            start, pieces, line, rays = any_system(seed)
            text = system_text(start, pieces)
            if sums(line, text, rays) == [-5]:
                self.assertEqual(petzval(line, text), [field(start, pieces, line)])
                refused += 1
        self.assertGreater(refused, 5)


class MinusOne(unittest.TestCase):
    def test_lines(self):
        for line in (3, 4, 255, 256, 2 ** 31, 4294967295):
            self.assertEqual(call_petzval(line, RUN), [-1])

    def test_texts_of_65536_and_65537_bytes(self):
        plain = call_petzval(0, RUN)
        for fill in (" ", "\n", "#"):
            self.assertEqual(call_petzval(0, RUN + fill * (LONGEST - len(RUN))), plain)
            self.assertEqual(call_petzval(0, RUN + fill * (LONGEST + 1 - len(RUN))), [-1])
        self.assertEqual(call_petzval(0, " " * 70000), [-1])
        self.assertEqual(call_petzval(0, " " * LONGEST), [-3, LONGEST, 2])


class MinusThree(unittest.TestCase):
    def test_each_kind(self):
        # The marker stands where the fault is.
        start = "glass a:1,1,1;start a;"
        stops = "".join(f"stop s{i} after 1;" for i in range(64))
        for marked, kind in (
            ("|!", 1), (start + "stop s after 1;|!", 1),
            ("|", 2), ("|stop", 2), (start + "stop s after 1|", 2),
            (start + "stop s after 1;stop |s", 3),
            ("glass a:1,1,1;start |b;", 4),
            (start + stops + "|stop t after 1;", 5),
            ("glass a:1,1,1/2|;", 6), (start + "stop s after 1/|0;", 6),
        ):
            self.assertEqual(petzval(0, marked.replace("|", "")), [-3, marked.index("|"), kind], marked)
        self.assertEqual(petzval(0, start + stops), [0])

    def test_what_stands_before_the_fault_is_not_told(self):
        self.assertEqual(petzval(0, BAD_TEXT), BAD_TEXT_FAULT)
        self.assertEqual(petzval(0, RUN + "!"), [-3, len(RUN), 1])
        self.assertEqual(petzval(0, RUN + "mirror"), [-3, len(RUN) + 6, 2])


class MinusSix(unittest.TestCase):
    def coprime(self, number, step):
        """The next number that shares nothing with the long sum's denominator."""
        bottom = field("a", LONG, 0, LONG_GLASSES).denominator
        while math.gcd(number, 2 * bottom) > 1:
            number += step
        return number

    def test_denominators_at_the_edge(self):
        bottom = field("a", LONG, 0, LONG_GLASSES).denominator
        self.assertLess(bottom, LIMIT)
        most = LIMIT // bottom
        self.assertTrue(10 ** 15 < most < 10 ** 18, most)
        below = self.coprime(most, -1)
        above = self.coprime(most + 1, 1)
        for sign in (1, -1):
            text, wanted = long_with(F(sign, below))
            self.assertTrue(LIMIT - LIMIT // 10 ** 12 < wanted.denominator < LIMIT)
            self.assertLess(abs(wanted.numerator), LIMIT)
            self.assertEqual(petzval(0, text), [wanted])
            text, wanted = long_with(F(sign, above))
            self.assertTrue(LIMIT <= wanted.denominator < LIMIT + LIMIT // 10 ** 12)
            self.assertLess(abs(wanted.numerator), LIMIT)
            self.assertEqual(petzval(0, text), [-6])

    def test_numerators_at_the_edge(self):
        bottom = field("a", LONG, 0, LONG_GLASSES).denominator
        most = LIMIT // bottom
        edges = []
        for sign in (1, -1):
            for times in range(most - 3, most + 4):
                text, wanted = long_with(F(sign * times, 2))
                self.assertEqual(wanted.denominator, bottom)
                self.assertLess(abs(abs(wanted.numerator) - LIMIT), LIMIT // 10 ** 12)
                self.assertEqual(petzval(0, text), told([wanted]))
                edges.append(is_large(wanted))
        self.assertEqual(set(edges[:7]), {False, True})
        self.assertEqual(set(edges[7:]), {False, True})

    def test_on_the_way_to_the_edge(self):
        outcomes = []
        for count in range(0, 61, 6):
            pieces = long_surfaces(count)
            wanted = told([field("a", pieces, 0, LONG_GLASSES)])
            self.assertEqual(petzval(0, system_text("a", pieces, LONG_GLASSES)), wanted)
            outcomes.append(wanted == [-6])
        self.assertEqual(outcomes, sorted(outcomes))
        self.assertEqual(set(outcomes), {False, True})

    def test_what_was_large_on_the_way_only(self):
        # Light that goes back into the glass before, through the same curve, takes back what came of it.
        there = long_surfaces(40)[:-1]
        back = [Piece("surface", 0, there[i - 1].into, there[i].curve) for i in range(39, 19, -1)]
        self.assertTrue(is_large(field("a", there, 0, LONG_GLASSES)))
        self.assertEqual(petzval(0, system_text("a", there, LONG_GLASSES)), [-6])
        wanted = [field("a", there[:20], 0, LONG_GLASSES)]
        self.assertEqual(petzval(0, system_text("a", there + back, LONG_GLASSES)), wanted)
        self.assertEqual(petzval(0, system_text("a", there[:20], LONG_GLASSES)), wanted)


class Order(unittest.TestCase):
    def test_minus_one_before_minus_three(self):
        self.assertEqual(call_petzval(0, BAD_TEXT), BAD_TEXT_FAULT)
        self.assertEqual(call_petzval(3, BAD_TEXT), [-1])
        self.assertEqual(call_petzval(3, ""), [-1])
        self.assertEqual(call_petzval(0, "!" * LONGEST), [-3, 0, 1])
        self.assertEqual(call_petzval(0, "!" * (LONGEST + 1)), [-1])

    def test_minus_one_before_minus_six(self):
        self.assertEqual(call_petzval(0, LARGE), [-6])
        self.assertEqual(call_petzval(3, LARGE), [-1])
        self.assertEqual(call_petzval(0, LARGE + " " * (LONGEST + 1 - len(LARGE))), [-1])

    def test_minus_three_before_minus_six(self):
        self.assertEqual(call_petzval(0, LARGE + "!"), [-3, len(LARGE), 1])
        self.assertEqual(call_petzval(0, LARGE + "stop e0"), [-3, len(LARGE) + 5, 3])


if __name__ == "__main__":
    unittest.main()
