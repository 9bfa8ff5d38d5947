"""An element's part: against the document's words reckoned once more, against the sums, and its refusals."""

import unittest
from fractions import Fraction

from helper import (
    AIR, BAD_TEXT, BAD_TEXT_FAULT, GLASSES, HEAD_ON, LONGEST, RUN, Piece, any_system, call_part, expected_parts,
    last_mirror, one_part, parts, spoken, sums, system_text, telescopes, together,
)
from helper import RAYS as RUN_RAYS
from test_handed import NONE, REFUSED
from test_sums import MIRROR_IN_GLASS, RAYS, STOPPED, SYSTEMS, larger

F = Fraction
MOST = 4294967295
ZEROS = [F(0)] * 7
ALONG = (1, 0, 0, 0)


def all_parts(line, start, pieces, rays, glasses=None):
    text = system_text(start, pieces, glasses)
    return [one_part(line, i, text, rays) for i in range(len(pieces))]


def part_along_the_axis(pieces, i):
    return one_part(0, i, system_text("a", pieces, AIR), ALONG)


def with_ray(place, text):
    rays = list(RUN_RAYS)
    rays[place] = text
    return rays


class Ordinary(unittest.TestCase):
    def test_each_element_of_each_system_on_each_line(self):
        for pieces in SYSTEMS:
            for line in range(3):
                for start in ("air", "flint"):
                    with self.subTest(pieces=SYSTEMS.index(pieces), line=line, start=start):
                        wanted = expected_parts(start, pieces, line, RAYS)
                        self.assertEqual({len(numbers) for numbers in wanted}, {7})
                        self.assertEqual(all_parts(line, start, pieces, RAYS), wanted)

    def test_many_systems(self):
        answered = 0
        refused = 0
        for seed in range(300):
            start, pieces, line, rays = any_system(seed)
            wanted = expected_parts(start, pieces, line, rays)
            with self.subTest(seed=seed):
                self.assertEqual(all_parts(line, start, pieces, rays), wanted)
            answered += sum(len(numbers) == 7 for numbers in wanted)
            refused += wanted.count([-5])
        self.assertGreater(answered, 400)
        self.assertGreater(refused, 10)

    def test_a_mirror_alone_by_hand(self):
        # Light along the axis on a sphere: a = c y, D = 2 c y, so S1 = -2 c c c y y y y.
        text = "glass a:1,1,1;start a;stop s after 1;mirror m after 2 curve 1/2;"
        self.assertEqual(spoken(call_part(0, 1, text, ("2", "0", "0", "0"))), "-4 0 0 0 0 0 0")
        self.assertEqual(spoken(call_part(0, 1, text, ("-3.0", "0", "-0", "00"))), "-81/4 0 0 0 0 0 0")

    def test_what_stands_behind_bears_on_nothing(self):
        whole = all_parts(2, "air", MIRROR_IN_GLASS, RAYS)
        for count in range(1, len(MIRROR_IN_GLASS) + 1):
            self.assertEqual(all_parts(2, "air", MIRROR_IN_GLASS[:count], RAYS), whole[:count])

    def test_an_element_by_itself_is_its_system_s_sums(self):
        for cut, piece in enumerate(STOPPED):
            between = parts("air", STOPPED[:cut], 0, RAYS)[1]
            medium = ([p.into for p in STOPPED[:cut] if p.into] or ["air"])[-1]
            self.assertEqual(
                one_part(0, cut, system_text("air", STOPPED), RAYS),
                sums(0, system_text(medium, [piece]), between),
            )

    def test_64_elements(self):
        pieces = [Piece("surface", F(1, 2), ("crown", "air")[i % 2], F(1, 8 + i), i % 3 - 1) for i in range(64)]
        wanted = expected_parts("air", pieces, 1, RAYS)
        self.assertEqual(len(wanted[20]), 7)
        self.assertEqual(all_parts(1, "air", pieces, RAYS), wanted)


class Stops(unittest.TestCase):
    def test_a_stop_has_no_part(self):
        for pieces in (STOPPED, MIRROR_IN_GLASS):
            for i in [i for i, piece in enumerate(pieces) if piece.word == "stop"]:
                answer = call_part(0, i, system_text("air", pieces), ("1", "1/20", "-1/3", "1/10"))
                self.assertEqual(spoken(answer), "0 0 0 0 0 0 0")

    def test_even_where_the_marginal_rays_angle_is_nought(self):
        text = system_text("air", [Piece("stop", 0), Piece("stop", 5, clear="1")])
        for rays in (("1", "0", "0", "1"), ("0", "0", "1", "1"), ("0", "0", "0", "0")):
            for i in range(2):
                self.assertEqual(spoken(call_part(0, i, text, rays)), "0 0 0 0 0 0 0")

    def test_even_behind_an_element_met_head_on(self):
        text = HEAD_ON + "stop s after 1;"
        self.assertEqual(one_part(0, 1, text, (1, 0, 0, 1)), ZEROS)
        self.assertEqual(one_part(0, 0, text, (1, 0, 0, 1)), [-5])


class Promises(unittest.TestCase):
    def test_three_larger_rays_by_fourth_powers_and_colour_by_second(self):
        for f in (F(3), F(-2, 7)):
            wanted = [
                [f ** 4 * x for x in found[:5]] + [f ** 2 * x for x in found[5:]]
                for found in all_parts(0, "air", MIRROR_IN_GLASS, RAYS)
            ]
            self.assertEqual(all_parts(0, "air", MIRROR_IN_GLASS, [f * ray for ray in RAYS]), wanted)

    def test_three_larger_systems_by_their_size(self):
        y, v, z, w = RAYS
        for k in (F(10), F(3, 8)):
            wanted = [[k * x for x in found] for found in all_parts(2, "air", STOPPED, RAYS)]
            self.assertEqual(all_parts(2, "air", larger(STOPPED, k), (k * y, v, k * z, w)), wanted)

    def test_four_the_field_hangs_on_no_object(self):
        c, n, m = F(-1, 9), GLASSES["crown"][0], GLASSES["flint"][0]
        for rays in (RAYS, (5, 2, -3, 7), (1, 0, 0, 1)):
            y, v, z, w = [F(ray) for ray in rays]
            found = one_part(0, 1, system_text("air", STOPPED), rays)
            self.assertEqual(found[3], -c * (1 / m - 1 / n) * (v * z - w * y) ** 2)

    def test_five_all_is_the_parts_together(self):
        mirrors = [sum(piece.word == "mirror" for piece in pieces) for pieces in SYSTEMS]
        self.assertEqual({1, 2, 3} - set(mirrors), set())
        for pieces in SYSTEMS:
            for line in range(3):
                found = all_parts(line, "air", pieces, RAYS)
                self.assertEqual(together(found), sums(line, system_text("air", pieces), RAYS))

    def test_five_in_many_systems(self):
        for seed in range(1000, 1200):
            start, pieces, line, rays = any_system(seed)
            found = all_parts(line, start, pieces, rays)
            wanted = [-5] if [-5] in found else together(found)
            self.assertEqual(sums(line, system_text(start, pieces), rays), wanted)


class MinusOne(unittest.TestCase):
    def test_lines(self):
        for line in (0, 1, 2):
            self.assertGreater(call_part(line, 1, RUN, RUN_RAYS)[0], 0)
        for line in (3, 4, 255, 256, 2 ** 31, MOST):
            self.assertEqual(call_part(line, 1, RUN, RUN_RAYS), [-1])

    def test_each_number(self):
        for place in range(4):
            for wrong in NONE + REFUSED:
                self.assertEqual(call_part(0, 0, RUN, with_ray(place, wrong)), [-1])

    def test_texts_of_65536_and_65537_bytes(self):
        plain = call_part(0, 0, RUN, RUN_RAYS)
        self.assertEqual(call_part(0, 0, RUN + " " * (LONGEST - len(RUN)), RUN_RAYS), plain)
        self.assertEqual(call_part(0, 0, RUN + " " * (LONGEST + 1 - len(RUN)), RUN_RAYS), [-1])
        self.assertEqual(call_part(0, 0, " " * 70000, RUN_RAYS), [-1])


class MinusTwo(unittest.TestCase):
    def test_as_many_as_there_are(self):
        for pieces in SYSTEMS:
            text = system_text("air", pieces)
            self.assertEqual(len(one_part(0, len(pieces) - 1, text, RAYS)), 7)
            for i in (len(pieces), len(pieces) + 1, 64, 255, 2 ** 31, 2 ** 32 - len(pieces), MOST):
                self.assertEqual(one_part(0, i, text, RAYS), [-2])

    def test_no_element(self):
        text = system_text("air", [])
        for i in (0, 1, 64, MOST):
            self.assertEqual(one_part(0, i, text, RAYS), [-2])

    def test_64_elements(self):
        text = system_text("air", [Piece("stop", 1)] * 64)
        self.assertEqual(one_part(0, 63, text, RAYS), ZEROS)
        self.assertEqual(one_part(0, 64, text, RAYS), [-2])


class MinusFive(unittest.TestCase):
    def test_the_element_met_head_on_alone(self):
        before = [Piece("surface", 0, "crown", F(1, 10)), Piece("stop", 1)]
        y, v = parts("air", before, 0, RAYS)[1][:2]
        head_on = Piece("surface", 0, "air", -v / (GLASSES["crown"][0] * y))
        pieces = before + [head_on, Piece("surface", 1, "flint", 1)]
        found = all_parts(0, "air", pieces, RAYS)
        self.assertEqual([len(numbers) for numbers in found], [7, 7, 1, 7])
        self.assertEqual(found, expected_parts("air", pieces, 0, RAYS))
        self.assertEqual(found[2], [-5])
        self.assertEqual(sums(0, system_text("air", pieces), RAYS), [-5])

    def test_the_document_s_own(self):
        rays = ("1", "-1/10", "0", "1/10")
        self.assertEqual(call_part(0, 0, RUN, rays), [-5])
        self.assertGreater(call_part(0, 1, RUN, rays)[0], 0)

    def test_along_the_axis_onto_a_plane(self):
        text = "glass a:1,1,1;start a;{} after 1 {};"
        for kind, shape in (("mirror m", "flat"), ("surface s", "into a flat"), ("mirror m", "curve 0 conic 3")):
            self.assertEqual(one_part(0, 0, text.format(kind, shape), (1, 0, 0, 1)), [-5])

    def test_behind_a_mirror_a_has_the_signed_index(self):
        # Behind the mirror v is -1 and y is 1/2: n c y is 1 for the curve -2 with n = -1.
        text = "glass a:1,1,1;start a;mirror m after 0 curve -1/2;mirror k after 1/2 curve {};"
        self.assertEqual(one_part(0, 1, text.format("-2"), (1, 0, 0, 1)), [-5])
        self.assertEqual(len(one_part(0, 1, text.format("2"), (1, 0, 0, 1))), 7)

    def test_the_chief_ray_may_be_head_on(self):
        text = "glass a:1,1,1;start a;mirror m after 0 curve 1;"
        self.assertEqual(len(one_part(0, 0, text, (1, 1, 1, -1))), 7)


class MinusSix(unittest.TestCase):
    def test_numerators_at_the_edge(self):
        # 2 * 2 ** 3 * (2 ** 1023) ** 4 is 2 ** 4096.
        wide = telescopes(1023)
        last = len(wide)
        little = F(1, 2 ** 59)
        largest = (2 ** 59 - 1) * 2 ** 4037
        for curve, sign in ((2, -1), (-2, 1)):
            self.assertEqual(part_along_the_axis(wide + last_mirror(curve), last), [-6])
            self.assertEqual(part_along_the_axis(wide + last_mirror(curve, 1), last), [-6])
            found = part_along_the_axis(wide + last_mirror(curve, -little), last)
            self.assertEqual(found, [sign * largest, 0, 0, 0, 0, 0, 0])

    def test_denominators_at_the_edge(self):
        # 2 / 2 ** 4097 is 1 / 2 ** 4096; 2 / 2 ** 4096 is 1 / 2 ** 4095.
        for power, curve, wanted in (
            (-1025, 2, [-6]), (-1025, -2, [-6]),
            (-1024, 1, [F(-1, 2 ** 4095), 0, 0, 0, 0, 0, 0]), (-1024, -1, [F(1, 2 ** 4095), 0, 0, 0, 0, 0, 0]),
        ):
            small = telescopes(power)
            self.assertEqual(part_along_the_axis(small + last_mirror(curve), len(small)), wanted)

    def test_each_element_on_the_way_to_the_edge(self):
        rays = (F(1), F(0), F(1), F(1))
        pieces = telescopes(750) + last_mirror(1)
        wanted = expected_parts("a", pieces, 0, rays, AIR)
        self.assertEqual(all_parts(0, "a", pieces, rays, AIR), wanted)
        self.assertIn([-6], wanted)
        self.assertGreater(sum(len(numbers) == 7 for numbers in wanted), 10)

    def test_others_may_be_too_large(self):
        wide = telescopes(1100)
        pieces = [Piece("surface", 0, "a", F(1, 3))] + wide + last_mirror(1)
        found = expected_parts("a", pieces, 0, ALONG, AIR)
        self.assertEqual(found[-1], [-6])
        self.assertEqual(part_along_the_axis(pieces, 0), ZEROS)
        self.assertEqual(part_along_the_axis(pieces, len(wide) + 1), [-6])
        self.assertEqual(sums(0, system_text("a", pieces, AIR), ALONG), [-6])

    def test_parts_too_large_whose_sum_is_not(self):
        # The second mirror sends back what the first one has sent, and its part is less the first one's.
        wide = telescopes(1100)
        pieces = wide + last_mirror(1) + last_mirror(1)
        self.assertEqual(part_along_the_axis(pieces, len(wide)), [-6])
        self.assertEqual(part_along_the_axis(pieces, len(wide) + 1), [-6])
        self.assertEqual(sums(0, system_text("a", pieces, AIR), ALONG), ZEROS)


class Order(unittest.TestCase):
    def test_minus_one_before_minus_three(self):
        self.assertEqual(call_part(0, 0, BAD_TEXT, RUN_RAYS), BAD_TEXT_FAULT)
        self.assertEqual(call_part(3, 0, BAD_TEXT, RUN_RAYS), [-1])
        self.assertEqual(call_part(0, 0, "!" * (LONGEST + 1), RUN_RAYS), [-1])
        for place in range(4):
            self.assertEqual(call_part(0, 0, BAD_TEXT, with_ray(place, "1.")), [-1])
            self.assertEqual(call_part(0, 0, "", with_ray(place, "1.")), [-1])

    def test_minus_one_before_minus_two(self):
        self.assertEqual(call_part(3, MOST, RUN, RUN_RAYS), [-1])
        self.assertEqual(call_part(0, 2, RUN, with_ray(3, "")), [-1])

    def test_minus_three_before_minus_two(self):
        for i in (0, 1, 2, MOST):
            self.assertEqual(call_part(0, i, BAD_TEXT, RUN_RAYS), BAD_TEXT_FAULT)
            self.assertEqual(call_part(0, i, "", RUN_RAYS), [-3, 0, 2])
            self.assertEqual(call_part(0, i, RUN + "!", RUN_RAYS), [-3, len(RUN), 1])

    def test_minus_three_before_minus_five(self):
        text = HEAD_ON + "mirror m after 1 flat;"
        self.assertEqual(one_part(0, 0, text, (1, 0, 0, 1)), [-3, len(HEAD_ON) + len("mirror "), 3])

    def test_minus_two_before_minus_five(self):
        self.assertEqual(one_part(0, 0, HEAD_ON, (1, 0, 0, 1)), [-5])
        for i in (1, 2, MOST):
            self.assertEqual(one_part(0, i, HEAD_ON, (1, 0, 0, 1)), [-2])

    def test_minus_two_before_minus_six(self):
        pieces = telescopes(1100) + last_mirror(1)
        self.assertEqual(part_along_the_axis(pieces, len(pieces) - 1), [-6])
        for i in (len(pieces), MOST):
            self.assertEqual(part_along_the_axis(pieces, i), [-2])

    def test_minus_five_before_minus_six(self):
        # The second mirror has its centre in the first one's focus; its conic alone would be far too much.
        wide = telescopes(1100)
        met = wide + last_mirror(1) + last_mirror(2, 5)
        near = wide + last_mirror(1) + last_mirror(3, 5)
        self.assertEqual(part_along_the_axis(met, len(wide) + 1), [-5])
        self.assertEqual(part_along_the_axis(near, len(wide) + 1), [-6])


if __name__ == "__main__":
    unittest.main()
