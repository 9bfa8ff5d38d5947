"""Shifted sums: against the document's words, against the shifted rays' sums, and their refusals."""

import random
import unittest
from fractions import Fraction

from helper import (
    AIR, BAD_TEXT, BAD_TEXT_FAULT, HEAD_ON, LONGEST, RUN, Piece, any_number, any_system, call, call_shift, expected,
    is_large, last_mirror, parts, shift, shifted, spoken, sums, system_text, telescopes,
)
from helper import RAYS as RUN_RAYS
from test_handed import HIGH, NONE, REFUSED, SAME, TAKEN
from test_sums import RAYS, STOPPED, SYSTEMS, combined, larger

F = Fraction
SHIFTS = (F(0), F(1), F(-1), F(1, 2), F(-3), F(7, 5), F(-22, 7), F(1, 10 ** 17), F(10 ** 17))
ALONG = (1, 0, 0, 0)


def shift_along_the_axis(pieces, e, rays=ALONG):
    return shift(0, system_text("a", pieces, AIR), rays, e)


def with_number(place, text):
    """The four rays' numbers and e, one of them another."""
    numbers = list(RUN_RAYS) + ["1/2"]
    numbers[place] = text
    return numbers[:4], numbers[4]


class Ordinary(unittest.TestCase):
    def test_each_system_on_each_line(self):
        for pieces in SYSTEMS:
            for line in range(3):
                for e in SHIFTS:
                    with self.subTest(pieces=SYSTEMS.index(pieces), line=line, e=e):
                        wanted = expected("air", pieces, line, RAYS, e=e)
                        self.assertEqual(len(wanted), 7)
                        self.assertEqual(shift(line, system_text("air", pieces), RAYS, e), wanted)

    def test_many_systems(self):
        answered = 0
        for seed in range(300):
            start, pieces, line, rays = any_system(seed)
            e = any_number(random.Random(seed), 20)
            wanted = expected(start, pieces, line, rays, e=e)
            with self.subTest(seed=seed):
                self.assertEqual(shift(line, system_text(start, pieces), rays, e), wanted)
            answered += len(wanted) == 7
        self.assertGreater(answered, 150)

    def test_by_nought_it_is_the_sums(self):
        for pieces in SYSTEMS:
            for nought in ("0", "-0", "0/7", "0.00", "000"):
                text = system_text("air", pieces)
                self.assertEqual(call_shift(0, text, RUN_RAYS, nought), call(0, text, RUN_RAYS))

    def test_a_mirror_alone_by_hand(self):
        # S1 is -4; nothing else but what e brings of it.
        text = "glass a:1,1,1;start a;mirror m after 0 curve 1/2;"
        rays = ("2", "0", "0", "0")
        self.assertEqual(spoken(call_shift(0, text, rays, "3")), "-4 -12 -36 0 -108 0 0")
        self.assertEqual(spoken(call_shift(0, text, rays, "-3")), "-4 12 -36 0 108 0 0")
        self.assertEqual(spoken(call_shift(0, text, rays, "0.50")), "-4 -2 -1 0 -1/2 0 0")

    def test_no_element_and_stops_alone(self):
        for pieces in ([], [Piece("stop", 1), Piece("stop", 0)]):
            for rays in (RAYS, (1, 0, 0, 1), (0, 0, 0, 0)):
                self.assertEqual(shift(2, system_text("air", pieces), rays, F(5, 3)), [0] * 7)

    def test_there_and_back(self):
        # Shifted by e, and the chief ray already less e times the marginal one.
        for pieces in SYSTEMS:
            text = system_text("air", pieces)
            for e in (F(3), F(-2, 9)):
                self.assertEqual(shift(0, text, combined(RAYS, -e), e), sums(0, text, RAYS))

    def test_what_e_is_worth(self):
        text = system_text("air", STOPPED)
        for e in TAKEN + ("3/2", "-1.5", "22/7"):
            self.assertEqual(shift(0, text, RAYS, e), expected("air", STOPPED, 0, RAYS, e=F(e)))
        for plain, other in SAME:
            self.assertEqual(call_shift(0, RUN, RUN_RAYS, other), call_shift(0, RUN, RUN_RAYS, plain))

    def test_an_e_of_512_bytes(self):
        longest = "-1." + "0" * 509
        self.assertEqual(len(longest), 512)
        self.assertEqual(call_shift(0, RUN, RUN_RAYS, longest), call_shift(0, RUN, RUN_RAYS, "-1"))
        self.assertEqual(call_shift(0, RUN, RUN_RAYS, longest + "0"), [-1])


class Promises(unittest.TestCase):
    def test_two_shifted_sums_are_the_shifted_rays_sums(self):
        for pieces in SYSTEMS:
            text = system_text("air", pieces)
            for line in range(3):
                for e in (F(0), F(1, 2), F(-3), F(7, 5), F(-22, 7), F(10 ** 15)):
                    self.assertEqual(shift(line, text, RAYS, e), sums(line, text, combined(RAYS, e)))

    def test_two_in_many_systems(self):
        for seed in range(2000, 2200):
            start, pieces, line, rays = any_system(seed)
            e = any_number(random.Random(seed), 20)
            text = system_text(start, pieces)
            self.assertEqual(shift(line, text, rays, e), sums(line, text, combined(rays, e)))

    def test_two_also_where_the_shifted_chief_ray_cannot_be_handed_over(self):
        e = F(HIGH - 1, HIGH - 2)
        rays = (F(HIGH - 3), F(1, HIGH - 7), F(HIGH - 4, 3), F(1, HIGH - 5))
        text = system_text("air", STOPPED)
        self.assertEqual(sums(0, text, combined(rays, e)), [-1])
        wanted = shifted(sums(0, text, rays), e)
        self.assertEqual(shift(0, text, rays, e), wanted)

    def test_three_larger_rays_by_fourth_powers_and_colour_by_second(self):
        text = system_text("air", STOPPED)
        found = shift(0, text, RAYS, F(-5, 4))
        for f in (F(3), F(-2, 7)):
            wanted = [f ** 4 * x for x in found[:5]] + [f ** 2 * x for x in found[5:]]
            self.assertEqual(shift(0, text, [f * ray for ray in RAYS], F(-5, 4)), wanted)

    def test_three_larger_systems_by_their_size(self):
        y, v, z, w = RAYS
        found = shift(2, system_text("air", STOPPED), RAYS, F(2, 3))
        for k in (F(10), F(3, 8)):
            text = system_text("air", larger(STOPPED, k))
            self.assertEqual(shift(2, text, (k * y, v, k * z, w), F(2, 3)), [k * x for x in found])

    def test_four_the_field_hangs_on_no_shift(self):
        for pieces in SYSTEMS:
            text = system_text("air", pieces)
            self.assertEqual({shift(0, text, RAYS, e)[3] for e in SHIFTS}, {sums(0, text, RAYS)[3]})


class MinusOne(unittest.TestCase):
    def test_lines(self):
        for line in (0, 1, 2):
            self.assertGreater(call_shift(line, RUN, RUN_RAYS, "1/2")[0], 0)
        for line in (3, 4, 255, 256, 2 ** 31, 4294967295):
            self.assertEqual(call_shift(line, RUN, RUN_RAYS, "1/2"), [-1])

    def test_each_number(self):
        for place in range(5):
            for wrong in NONE + REFUSED + ("0" * 513, "1" * 1000):
                self.assertEqual(call_shift(0, RUN, *with_number(place, wrong)), [-1])

    def test_texts_of_65536_and_65537_bytes(self):
        plain = call_shift(0, RUN, RUN_RAYS, "1/2")
        self.assertEqual(call_shift(0, RUN + " " * (LONGEST - len(RUN)), RUN_RAYS, "1/2"), plain)
        self.assertEqual(call_shift(0, RUN + " " * (LONGEST + 1 - len(RUN)), RUN_RAYS, "1/2"), [-1])
        self.assertEqual(call_shift(0, " " * 70000, RUN_RAYS, "1/2"), [-1])


class MinusFive(unittest.TestCase):
    def test_head_on_whatever_e(self):
        for e in SHIFTS:
            self.assertEqual(shift(0, HEAD_ON, (1, 0, 0, 1), e), [-5])
            self.assertEqual(shift(0, RUN, (1, F(-1, 10), 0, F(1, 10)), e), [-5])

    def test_the_shifted_chief_ray_may_be_head_on(self):
        # b is 2 and a is 2 there: shifted by -1 the chief ray is met head on.
        text = "glass a:1,1,1;start a;mirror m after 0 curve 1;"
        self.assertEqual(shift(0, text, (1, 1, 2, 0), -1), expected("a", last_mirror(1), 0, (1, 1, 1, -1), AIR))

    def test_one_of_many(self):
        before = STOPPED[:3]
        y, v = parts("air", before, 0, RAYS)[1][:2]
        pieces = before + [Piece("surface", 0, "air", -v / y), Piece("surface", 1, "flint", 1)]
        self.assertEqual(shift(0, system_text("air", pieces), RAYS, 1), [-5])
        self.assertEqual(len(shift(1, system_text("air", pieces), RAYS, 1)), 7)


class MinusSix(unittest.TestCase):
    def test_e_brings_numerators_over_the_edge(self):
        edge = telescopes(1023) + last_mirror(2, F(-1, 2))
        most = F(-(2 ** 4095))
        self.assertEqual(sums(0, system_text("a", edge, AIR), ALONG), [most, 0, 0, 0, 0, 0, 0])
        self.assertEqual(shift_along_the_axis(edge, 1), [most, most, most, 0, most, 0, 0])
        self.assertEqual(shift_along_the_axis(edge, -1), [most, -most, most, 0, -most, 0, 0])
        for e in (2, -2, F(3, 2), F(10 ** 17)):
            self.assertEqual(shift_along_the_axis(edge, e), [-6])

    def test_distortion_alone_over_the_edge(self):
        edge = telescopes(1023) + last_mirror(2, F(-1, 2))
        for e, sizes in ((F(5, 4), [False] * 7), (F(-11, 8), [False] * 4 + [True, False, False])):
            numbers = shifted([F(-(2 ** 4095))] + [F(0)] * 6, e)
            self.assertEqual([is_large(number) for number in numbers], sizes)
            self.assertEqual(shift_along_the_axis(edge, e), [-6] if True in sizes else numbers)

    def test_e_brings_denominators_over_the_edge(self):
        # S1 is -1 / 2 ** 4093.
        small = telescopes(-1024) + last_mirror(1, 3)
        least = F(-1, 2 ** 4093)
        self.assertEqual(sums(0, system_text("a", small, AIR), ALONG), [least, 0, 0, 0, 0, 0, 0])
        wanted = [least, least / 2, least / 4, 0, F(-1, 2 ** 4096), 0, 0]
        self.assertEqual(shifted([least] + [F(0)] * 6, F(1, 2)), wanted)
        self.assertEqual(shift_along_the_axis(small, F(1, 2)), [-6])
        self.assertEqual(shift_along_the_axis(small, F(1, 4)), [-6])
        self.assertEqual(shift_along_the_axis(small, F(1)), shifted([least] + [F(0)] * 6, F(1)))
        smaller = telescopes(-1024) + last_mirror(1, 7)
        self.assertEqual(shift_along_the_axis(smaller, F(1, 2)), [2 * x for x in wanted])

    def test_e_brings_the_numbers_back_within_the_edge(self):
        edge = telescopes(1023) + last_mirror(2, F(-1, 2))
        most = F(-(2 ** 4095))
        self.assertEqual(sums(0, system_text("a", edge, AIR), (1, 0, 2, 0)), [-6])
        self.assertEqual(shift_along_the_axis(edge, -2, (1, 0, 2, 0)), [most, 0, 0, 0, 0, 0, 0])
        self.assertEqual(shift_along_the_axis(edge, -1, (1, 0, 2, 0)), [most, most, most, 0, most, 0, 0])

    def test_on_the_way_to_the_edge(self):
        rays = (F(1), F(0), F(1), F(1))
        outcomes = []
        for power in (600, 650, 675, 700):
            for e in (F(0), F(-1, 3), F(10 ** 17)):
                pieces = telescopes(power) + last_mirror(1)
                wanted = expected("a", pieces, 0, rays, AIR, e)
                self.assertEqual(shift_along_the_axis(pieces, e, rays), wanted)
                outcomes.append(len(wanted))
        self.assertEqual(set(outcomes), {1, 7})

    def test_a_long_system_of_long_numbers_is_refused(self):
        pieces = [
            Piece("surface", F(10 ** 17 + i, 10 ** 17 - 3 - i), ("crown", "flint")[i % 2], F(1, 10 ** 17 + 9 * i), i)
            for i in range(64)
        ]
        self.assertEqual(shift(1, system_text("air", pieces), RAYS, F(HIGH - 1, HIGH - 2)), [-6])


class Order(unittest.TestCase):
    def test_minus_one_before_minus_three(self):
        self.assertEqual(call_shift(0, BAD_TEXT, RUN_RAYS, "1/2"), BAD_TEXT_FAULT)
        self.assertEqual(call_shift(3, BAD_TEXT, RUN_RAYS, "1/2"), [-1])
        self.assertEqual(call_shift(0, "!" * (LONGEST + 1), RUN_RAYS, "1/2"), [-1])
        for place in range(5):
            self.assertEqual(call_shift(0, BAD_TEXT, *with_number(place, "1.")), [-1])
            self.assertEqual(call_shift(0, "", *with_number(place, "1.")), [-1])

    def test_minus_one_before_minus_five(self):
        self.assertEqual(call_shift(0, HEAD_ON, ("1", "0", "0", "1"), "1/2"), [-5])
        self.assertEqual(call_shift(3, HEAD_ON, ("1", "0", "0", "1"), "1/2"), [-1])
        self.assertEqual(call_shift(0, HEAD_ON, ("1", "0", "0", "1"), "1/"), [-1])

    def test_minus_three_before_minus_five(self):
        text = HEAD_ON + "mirror m after 1 flat;"
        self.assertEqual(shift(0, text, (1, 0, 0, 1), F(1, 2)), [-3, len(HEAD_ON) + len("mirror "), 3])

    def test_minus_three_before_minus_six(self):
        text = system_text("a", telescopes(1100) + last_mirror(1), AIR)
        self.assertEqual(shift(0, text, ALONG, 2), [-6])
        self.assertEqual(shift(0, text + "!", ALONG, 2), [-3, len(text), 1])

    def test_minus_five_before_minus_six(self):
        large = telescopes(1100)
        plane = [Piece("mirror", 0)]
        self.assertEqual(shift_along_the_axis(large + last_mirror(1), 2), [-6])
        self.assertEqual(shift_along_the_axis(large + plane + last_mirror(1), 2), [-5])
        self.assertEqual(shift_along_the_axis(plane + large + last_mirror(1), 2), [-5])
        self.assertEqual(shift_along_the_axis(large + last_mirror(1) + [Piece("surface", 0, "a", 2)], 2), [-5])


if __name__ == "__main__":
    unittest.main()
