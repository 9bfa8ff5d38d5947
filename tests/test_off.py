"""Off: against the document's formulas with what sums answers, V behind all, and its refusals."""

import random
import unittest
from fractions import Fraction

from helper import (
    AIR, BAD_TEXT, BAD_TEXT_FAULT, HEAD_ON, LONGEST, RUN, Piece, any_number, any_system, call_off, expected_off,
    last_mirror, off, offset, parts, spoken, sums, system_text, telescopes,
)
from helper import RAYS as RUN_RAYS
from test_handed import HIGH, NONE, REFUSED, SAME, TAKEN
from test_sums import (
    MIRROR_IN_GLASS, ONE_MIRROR, RAYS, SINGLET, STOPPED, SYSTEMS, THREE_MIRRORS, TWO_MIRRORS, combined, larger,
)

F = Fraction
TURNS = (
    (0, 0, 0),
    (1, 0, 0), (0, 1, 0), (0, 0, 1),
    (0, 2, 3), (2, 0, 3), (2, 3, 0),
    (-1, 0, 0), (0, -1, 0), (0, 0, -1),
    (-2, -3, -5), (-2, 3, 5), (2, -3, 5), (2, 3, -5),
    (F(2, 3), F(-1, 2), F(5, 4)), (F(-7, 11), F(22, 7), F(-1, 1000)),
)
TURN = ("1/2", "2", "-1/3")
ALONG = (1, 0, 0, 0)
CHIEF = (F(-1, 3), F(1, 10))
MIRROR = "glass a:1,1,1;start a;mirror m after 0 curve 1/2;"


def off_along_the_axis(pieces, turn, rays=ALONG):
    return off(0, system_text("a", pieces, AIR), rays, turn)


def with_number(place, text):
    """The four rays' numbers and the three of the turn, one of them another."""
    numbers = list(RUN_RAYS) + list(TURN)
    numbers[place] = text
    return numbers[:4], numbers[4:]


def without_angle(start, pieces, line, chief, height=F(1)):
    """Rays of which the marginal one leaves along the axis."""
    one = parts(start, pieces, line, (height, 0, 0, 0))[1][1]
    other = parts(start, pieces, line, (0, 1, 0, 0))[1][1]
    return (height, -one / other, *chief)


class Ordinary(unittest.TestCase):
    def test_each_system_on_each_line(self):
        for pieces in SYSTEMS:
            text = system_text("air", pieces)
            for line in range(3):
                found = sums(line, text, RAYS)
                angle = parts("air", pieces, line, RAYS)[1][1]
                for turn in TURNS:
                    with self.subTest(pieces=SYSTEMS.index(pieces), line=line, turn=turn):
                        self.assertEqual(off(line, text, RAYS, turn), offset(found, angle, *turn))

    def test_each_number_of_the_turn_and_each_sum_bears_on_it(self):
        found = sums(0, system_text("air", STOPPED), RAYS)
        self.assertNotIn(0, found[:5])
        answers = [off(0, system_text("air", STOPPED), RAYS, turn) for turn in TURNS[1:]]
        self.assertEqual(len({tuple(answer) for answer in answers}), len(answers))

    def test_many_systems(self):
        answered = 0
        refused = 0
        for seed in range(500):
            start, pieces, line, rays = any_system(seed)
            chance = random.Random(seed)
            turn = [any_number(chance, 20) for place in range(3)]
            wanted = expected_off(start, pieces, line, rays, turn)
            with self.subTest(seed=seed):
                self.assertEqual(off(line, system_text(start, pieces), rays, turn), wanted)
            answered += len(wanted) == 2
            refused += wanted == [-5]
        self.assertGreater(answered, 200)
        self.assertGreater(refused, 10)

    def test_light_that_comes_in_glass(self):
        for line in range(3):
            for turn in TURNS:
                wanted = expected_off("flint", STOPPED, line, RAYS, turn)
                self.assertEqual(off(line, system_text("flint", STOPPED), RAYS, turn), wanted)

    def test_a_mirror_alone_by_hand(self):
        # S1 is -4 and V is 2: all rays of height 2, turned about the axis, are off toward it by 1.
        rays = ("2", "0", "0", "0")
        for turn, wanted in (
            (("0", "1", "0"), "0 -1"), (("1", "0", "0"), "-1 0"), (("0", "-1", "0"), "0 1"), (("-1", "0", "7"), "1 0"),
            (("3/5", "4/5", "0"), "-3/5 -4/5"), (("0", "0.50", "0"), "0 -1/8"), (("-1", "1", "0"), "2 -2"),
        ):
            self.assertEqual(spoken(call_off(0, MIRROR, rays, turn)), wanted)

    def test_a_mirror_alone_with_a_chief_ray_by_hand(self):
        # S1 to S5 are -4, -4, -4, 4, 0, and V is 2.
        rays = ("2", "0", "0", "1")
        self.assertEqual(sums(0, MIRROR, rays)[:5], [-4, -4, -4, 4, 0])
        for turn, wanted in (
            (("0", "0", "1"), "0 0"), (("1", "0", "1"), "-1 -1"), (("0", "1", "1"), "0 -6"),
            (("1", "1", "1"), "-4 -8"), (("1", "1", "-1"), "0 0"), (("0", "2", "1"), "0 -24"),
        ):
            self.assertEqual(spoken(call_off(0, MIRROR, rays, turn)), wanted)

    def test_distortion_alone(self):
        text = system_text("air", SINGLET)
        angle = parts("air", SINGLET, 0, RAYS)[1][1]
        distortion = sums(0, text, RAYS)[4]
        for h in (1, -1, F(3, 2)):
            self.assertEqual(off(0, text, RAYS, (0, 0, h)), [0, distortion * h ** 3 / (2 * angle)])

    def test_what_p_q_and_h_are_worth(self):
        text = system_text("air", STOPPED)
        for place in range(3):
            for worth in TAKEN + ("3/2", "-1.5", "22/7"):
                turn = list(TURN)
                turn[place] = worth
                wanted = expected_off("air", STOPPED, 0, RAYS, turn)
                self.assertEqual(off(0, text, RAYS, turn), wanted)
            for plain, other in SAME:
                self.assertEqual(
                    call_off(0, RUN, *with_number(4 + place, other)), call_off(0, RUN, *with_number(4 + place, plain)),
                )

    def test_numbers_of_512_bytes(self):
        longest = "-1." + "0" * 509
        self.assertEqual(len(longest), 512)
        for place in range(7):
            plain = call_off(0, RUN, *with_number(place, "-1"))
            self.assertEqual(call_off(0, RUN, *with_number(place, longest)), plain)
            self.assertEqual(call_off(0, RUN, *with_number(place, longest + "0")), [-1])

    def test_all_numbers_as_long_as_they_may_be(self):
        rays = (F(HIGH - 1, HIGH - 2), F(-1, HIGH - 3), F(HIGH - 5, 7), F(HIGH - 7, HIGH - 4))
        turn = (F(1 - HIGH, HIGH - 6), F(1, HIGH - 1), F(HIGH - 11, HIGH - 10))
        for pieces in SYSTEMS:
            wanted = expected_off("water", pieces, 2, rays, turn)
            self.assertEqual(len(wanted), 2)
            self.assertEqual(off(2, system_text("water", pieces), rays, turn), wanted)

    def test_64_elements(self):
        pieces = [Piece("surface", F(1, 2), ("crown", "air")[i % 2], F(1, 8 + i), i % 3 - 1) for i in range(64)]
        wanted = expected_off("air", pieces, 1, (1, 0, 0, 1), (1, 1, 1))
        self.assertEqual(off(1, system_text("air", pieces), (1, 0, 0, 1), (1, 1, 1)), wanted)


class BehindAll(unittest.TestCase):
    def check(self, pieces, start="air"):
        for line in range(3):
            for rays in ((F(3), F(1, 7), F(-1, 3), F(1, 10)), (F(2), F(-1, 30), F(1), F(0))):
                end = parts(start, pieces, line, rays)[1]
                # V is neither the angle that the light came with nor the chief ray's.
                self.assertNotIn(end[1], (rays[1], rays[3], end[3]))
                found = sums(line, system_text(start, pieces), rays)
                for turn in ((1, 2, 3), (0, 1, 0)):
                    wanted = offset(found, end[1], *turn)
                    self.assertNotEqual(wanted[1], 0)
                    self.assertEqual(off(line, system_text(start, pieces), rays, turn), wanted)

    def test_behind_surfaces(self):
        self.check(SINGLET)
        self.check(SINGLET[:1])
        self.check(STOPPED[:2])
        self.check(STOPPED, "water")

    def test_behind_a_last_surface_into_glass_the_angle_is_times_the_index(self):
        # Behind a plane the reduced angle stays.
        text = "glass a:1,1,1;glass b:2,2,2;start a;surface s after 0 into b flat;"
        found = sums(0, text, RAYS)
        self.assertEqual(off(0, text, RAYS, (1, 2, 3)), offset(found, RAYS[1], 1, 2, 3))

    def test_behind_one_mirror_two_and_three(self):
        mirrors = [
            Piece("mirror", 2, curve=F(-1, 8), conic=F(1, 3)),
            Piece("mirror", 3, curve=F(1, 5)),
            Piece("mirror", F(1, 2), curve=F(-1, 3), conic=-2),
        ]
        for count in (1, 2, 3):
            self.check(mirrors[:count])
            self.check(mirrors[:count], "flint")

    def test_behind_mirrors_in_glass(self):
        self.check(MIRROR_IN_GLASS)
        for cut in range(2, len(MIRROR_IN_GLASS)):
            self.check(MIRROR_IN_GLASS[:cut])

    def test_behind_a_last_stop(self):
        for pieces in (SINGLET, STOPPED, ONE_MIRROR, MIRROR_IN_GLASS):
            stopped = pieces + [Piece("stop", 7, clear="1/9"), Piece("stop", 0)]
            self.check(stopped)
            for turn in TURNS:
                self.assertEqual(
                    off(0, system_text("air", stopped), RAYS, turn), off(0, system_text("air", pieces), RAYS, turn),
                )

    def test_without_elements(self):
        for start in ("air", "flint"):
            for v in ("1", "-3", "1/1000"):
                for turn in (TURN, ("0", "0", "0"), ("-5", "7/2", "1")):
                    answer = call_off(1, system_text(start, []), ("1", v, "2", "3"), turn)
                    self.assertEqual(spoken(answer), "0 0")

    def test_stops_alone(self):
        text = system_text("air", [Piece("stop", 1), Piece("stop", 0, clear="3")])
        self.assertEqual(off(0, text, (1, 2, 3, 4), (1, 1, 1)), [0, 0])
        self.assertEqual(off(0, text, (0, 2, 0, 0), (1, 1, 1)), [0, 0])
        self.assertEqual(off(0, text, (1, 0, 3, 4), (1, 1, 1)), [-5])


class Promises(unittest.TestCase):
    def test_two_shifted_rays_say_the_same_of_the_same_rays(self):
        # h of the shifted chief ray holds e h of the marginal one.
        for pieces in SYSTEMS:
            text = system_text("air", pieces)
            for e in (F(1, 2), F(-3)):
                for a, b, h in TURNS:
                    self.assertEqual(
                        off(1, text, combined(RAYS, e), (a, b - e * h, h)), off(1, text, RAYS, (a, b, h)),
                    )

    def test_three_larger_rays_by_fourth_powers_over_their_angle(self):
        for pieces in SYSTEMS:
            text = system_text("air", pieces)
            for f in (F(3), F(-2, 7)):
                for turn in TURNS:
                    wanted = [f ** 3 * x for x in off(0, text, RAYS, turn)]
                    self.assertEqual(off(0, text, [f * ray for ray in RAYS], turn), wanted)
                    self.assertEqual(off(0, text, RAYS, [f * number for number in turn]), wanted)

    def test_three_larger_systems_by_their_size(self):
        y, v, z, w = RAYS
        for pieces in SYSTEMS:
            for k in (F(10), F(3, 8)):
                text = system_text("air", larger(pieces, k))
                for turn in TURNS:
                    wanted = [k * x for x in off(2, system_text("air", pieces), RAYS, turn)]
                    self.assertEqual(off(2, text, (k * y, v, k * z, w), turn), wanted)

    def test_six_the_same_ray_said_by_two_others(self):
        # What is off hangs on the ray, not on the two others that say it.
        for pieces in SYSTEMS:
            y, v, z, w = RAYS
            text = system_text("air", pieces)
            self.assertEqual(off(0, text, RAYS, (0, 3, 0)), off(0, text, (3 * y, 3 * v, z, w), (0, 1, 0)))
            self.assertEqual(off(0, text, RAYS, (0, 1, 2)), off(0, text, (y, v, y + 2 * z, v + 2 * w), (0, 0, 1)))


class MinusOne(unittest.TestCase):
    def test_lines(self):
        for line in (0, 1, 2):
            self.assertGreater(call_off(line, RUN, RUN_RAYS, TURN)[0], 0)
        for line in (3, 4, 255, 256, 2 ** 31, 4294967295):
            self.assertEqual(call_off(line, RUN, RUN_RAYS, TURN), [-1])

    def test_each_of_the_seven_numbers(self):
        for place in range(7):
            for wrong in NONE + REFUSED + ("0" * 513, "1" * 1000):
                self.assertEqual(call_off(0, RUN, *with_number(place, wrong)), [-1])

    def test_texts_of_65536_and_65537_bytes(self):
        plain = call_off(0, RUN, RUN_RAYS, TURN)
        self.assertEqual(call_off(0, RUN + " " * (LONGEST - len(RUN)), RUN_RAYS, TURN), plain)
        self.assertEqual(call_off(0, RUN + " " * (LONGEST + 1 - len(RUN)), RUN_RAYS, TURN), [-1])
        self.assertEqual(call_off(0, " " * 70000, RUN_RAYS, TURN), [-1])


class MinusFive(unittest.TestCase):
    def test_head_on_while_v_is_not_nought(self):
        rays = (1, F(-1, 10), 0, F(1, 10))
        self.assertNotEqual(parts("air", SINGLET, 0, rays)[1][1], 0)
        self.assertEqual(sums(0, RUN, rays), [-5])
        for turn in TURNS:
            self.assertEqual(off(0, RUN, rays, turn), [-5])

    def test_one_of_many_head_on(self):
        before = STOPPED[:3]
        y, v = parts("air", before, 0, RAYS)[1][:2]
        pieces = before + [Piece("surface", 0, "air", -v / y), Piece("surface", 1, "flint", 1)]
        self.assertNotEqual(parts("air", pieces, 0, RAYS)[1][1], 0)
        self.assertEqual(off(0, system_text("air", pieces), RAYS, (1, 1, 1)), [-5])
        self.assertEqual(len(off(1, system_text("air", pieces), RAYS, (1, 1, 1))), 2)

    def test_v_nought_while_the_sums_are_there(self):
        for pieces in (SINGLET, STOPPED, ONE_MIRROR, TWO_MIRRORS, MIRROR_IN_GLASS):
            for line in range(3):
                text = system_text("air", pieces)
                rays = without_angle("air", pieces, line, CHIEF)
                self.assertEqual(len(sums(line, text, rays)), 7)
                for turn in ((0, 0, 0), (0, 1, 0), (F(2, 3), -5, 1)):
                    self.assertEqual(off(line, text, rays, turn), [-5])
                near = (rays[0], rays[1] + F(1, 10 ** 6), rays[2], rays[3])
                self.assertEqual(off(line, text, near, (1, 2, 3)), expected_off("air", pieces, line, near, (1, 2, 3)))
                self.assertEqual(len(off(line, text, near, (1, 2, 3))), 2)

    def test_both_at_once(self):
        self.assertEqual(off(0, HEAD_ON, (1, 0, 0, 1), (1, 1, 1)), [-5])
        # The last of the three mirrors is flat: what leaves it along the axis has met it head on.
        rays = without_angle("air", THREE_MIRRORS, 0, CHIEF)
        found, ends = parts("air", THREE_MIRRORS, 0, rays)
        self.assertEqual((found.count(None), ends[1]), (1, 0))
        self.assertEqual(off(0, system_text("air", THREE_MIRRORS), rays, (1, 1, 1)), [-5])
        # The first surface is met head on, and a mirror behind the last sends light back along the axis.
        rays = (1, F(-1, 10), *CHIEF)
        y, v = parts("air", SINGLET, 0, rays)[1][:2]
        pieces = SINGLET + [Piece("mirror", 0, curve=-v / (2 * y))]
        found, ends = parts("air", pieces, 0, rays)
        self.assertEqual(([numbers is None for numbers in found], ends[1]), ([True, False, False], 0))
        self.assertEqual(off(0, system_text("air", pieces), rays, (1, 1, 1)), [-5])

    def test_v_nought_without_elements(self):
        for start in ("air", "flint"):
            for rays in ((1, 0, 0, 1), (0, 0, 1, 1), (0, 0, 0, 0)):
                self.assertEqual(off(0, system_text(start, []), rays, (1, 1, 1)), [-5])
                self.assertEqual(off(0, system_text(start, []), rays, (0, 0, 0)), [-5])
                self.assertEqual(sums(0, system_text(start, []), rays), [0] * 7)

    def test_the_chief_rays_angle_may_be_nought_behind_all(self):
        for pieces in SYSTEMS:
            z, w = without_angle("air", pieces, 0, (0, 0))[:2]
            rays = (RAYS[0], RAYS[1], z, w)
            self.assertEqual(parts("air", pieces, 0, rays)[1][3], 0)
            wanted = expected_off("air", pieces, 0, rays, (1, 2, 3))
            self.assertEqual(len(wanted), 2)
            self.assertEqual(off(0, system_text("air", pieces), rays, (1, 2, 3)), wanted)

    def test_the_chief_ray_may_be_the_axis_or_head_on(self):
        text = "glass a:1,1,1;start a;mirror m after 0 curve 1;"
        self.assertEqual(len(off(0, text, (1, 1, 1, -1), (1, 1, 1))), 2)
        self.assertEqual(len(off(0, text, (1, 1, 0, 0), (1, 1, 1))), 2)


class MinusSix(unittest.TestCase):
    # Light along the axis of height y onto a last mirror is off by -c c (1 + k) y y y / 2.

    def test_numerators_at_the_edge(self):
        wide = telescopes(1365)
        little = F(1, 2 ** 59)
        largest = (2 ** 59 - 1) * 2 ** 4037
        for curve in (2, -2):
            self.assertEqual(off_along_the_axis(wide + last_mirror(curve), (0, 1, 0)), [-6])
            self.assertEqual(off_along_the_axis(wide + last_mirror(curve), (1, 0, 0)), [-6])
            self.assertEqual(off_along_the_axis(wide + last_mirror(curve), (0, -1, 0)), [-6])
            edge = wide + last_mirror(curve, -little)
            self.assertEqual(off_along_the_axis(edge, (0, 1, 0)), [0, -largest])
            self.assertEqual(off_along_the_axis(edge, (-1, 0, 0)), [largest, 0])
            half = wide + last_mirror(curve, F(-1, 2))
            self.assertEqual(off_along_the_axis(half, (1, 0, 0)), [-(2 ** 4095), 0])

    def test_denominators_at_the_edge(self):
        small = telescopes(-1365)
        self.assertEqual(off_along_the_axis(small + last_mirror(1), (0, 1, 0)), [-6])
        self.assertEqual(off_along_the_axis(small + last_mirror(1), (-1, 0, 0)), [-6])
        self.assertEqual(off_along_the_axis(small + last_mirror(1, 1), (0, 1, 0)), [0, F(-1, 2 ** 4095)])
        self.assertEqual(off_along_the_axis(small + last_mirror(-1, 1), (1, 0, 0)), [F(-1, 2 ** 4095), 0])

    def test_the_turn_brings_the_numbers_over_the_edge_and_back(self):
        half = telescopes(1365) + last_mirror(2, F(-1, 2))
        for turn in ((0, 2, 0), (F(-3, 2), 0, 0), (1, 1, 0), (10 ** 17, 0, 0)):
            self.assertEqual(off_along_the_axis(half, turn), [-6])
        self.assertEqual(off_along_the_axis(half, (0, F(-5, 4), 0)), [0, F(5, 4) ** 3 * 2 ** 4095])
        self.assertEqual(off_along_the_axis(telescopes(1365) + last_mirror(2), (F(1, 2), 0, 0)), [-(2 ** 4093), 0])
        self.assertEqual(off_along_the_axis(half, (0, 0, 0)), [0, 0])
        self.assertEqual(off_along_the_axis(half, (0, 0, 5)), [0, 0])

    def test_one_of_the_two_alone(self):
        # The denominator of x is twice that of y, or half of it.
        least = F(-1, 2 ** 4095)
        near = telescopes(-1365) + last_mirror(1, 15)
        self.assertEqual(off_along_the_axis(near, (F(1, 2), 1, 0)), [5 * least, 10 * least])
        self.assertEqual(off_along_the_axis(near, (1, F(1, 2), 0)), [10 * least, 5 * least])
        beyond = telescopes(-1365) + last_mirror(1, 7)
        self.assertEqual(off_along_the_axis(beyond, (F(1, 2), 1, 0)), [-6])
        self.assertEqual(off_along_the_axis(beyond, (1, F(1, 2), 0)), [-6])

    def test_answered_where_sums_are_too_large(self):
        text = system_text("a", telescopes(1100) + last_mirror(1), AIR)
        self.assertEqual(sums(0, text, ALONG), [-6])
        self.assertEqual(off(0, text, ALONG, (0, 1, 0)), [0, -(2 ** 3299)])
        self.assertEqual(off(0, text, ALONG, (F(3, 5), F(4, 5), 1)), [F(-3, 5) * 2 ** 3299, F(-4, 5) * 2 ** 3299])

    def test_answered_where_sums_have_too_large_a_denominator(self):
        text = system_text("a", telescopes(-1100) + last_mirror(1), AIR)
        self.assertEqual(sums(0, text, ALONG), [-6])
        self.assertEqual(off(0, text, ALONG, (0, 1, 0)), [0, F(-1, 2 ** 3301)])

    def test_refused_where_no_sum_is_too_large(self):
        # Light a little aslant leaves the telescopes with next to no angle.
        pieces = telescopes(970)
        rays = (1, F(1, 10 ** 17), 0, 0)
        text = system_text("a", pieces, AIR)
        self.assertEqual(len(sums(0, text, rays)), 7)
        for turn, count in (((0, 1, 0), 2), ((0, HIGH - 1, 0), 1)):
            wanted = expected_off("a", pieces, 0, rays, turn, AIR)
            self.assertEqual(len(wanted), count)
            self.assertEqual(off(0, text, rays, turn), wanted)

    def test_on_the_way_to_the_edge(self):
        rays = (F(1), F(0), F(1), F(1))
        outcomes = []
        for power in (650, 800, 900, 1000):
            for turn in ((1, 1, 1), (0, F(-1, 3), 0), (10 ** 17, 1, 10 ** 17), (0, 1, F(1, 10 ** 17))):
                pieces = telescopes(power) + last_mirror(1)
                wanted = expected_off("a", pieces, 0, rays, turn, AIR)
                self.assertEqual(off_along_the_axis(pieces, turn, rays), wanted)
                outcomes.append(len(wanted))
        self.assertEqual(set(outcomes), {1, 2})

    def test_a_long_system_of_long_numbers_is_refused(self):
        pieces = [
            Piece("surface", F(10 ** 17 + i, 10 ** 17 - 3 - i), ("crown", "flint")[i % 2], F(1, 10 ** 17 + 9 * i), i)
            for i in range(64)
        ]
        turn = (F(HIGH - 1, HIGH - 2), F(1, HIGH - 1), F(-7, HIGH - 5))
        self.assertEqual(off(1, system_text("air", pieces), RAYS, turn), [-6])


class Order(unittest.TestCase):
    def test_minus_one_before_minus_three(self):
        self.assertEqual(call_off(0, BAD_TEXT, RUN_RAYS, TURN), BAD_TEXT_FAULT)
        self.assertEqual(call_off(3, BAD_TEXT, RUN_RAYS, TURN), [-1])
        self.assertEqual(call_off(0, "!" * (LONGEST + 1), RUN_RAYS, TURN), [-1])
        for place in range(7):
            self.assertEqual(call_off(0, BAD_TEXT, *with_number(place, "1.")), [-1])
            self.assertEqual(call_off(0, "", *with_number(place, "1.")), [-1])

    def test_minus_one_before_minus_five(self):
        head_on = ("1", "0", "0", "1")
        self.assertEqual(call_off(0, HEAD_ON, head_on, TURN), [-5])
        self.assertEqual(call_off(3, HEAD_ON, head_on, TURN), [-1])
        for wrong in (("1/", "0", "0"), ("0", "", "0"), ("0", "0", "x")):
            self.assertEqual(call_off(0, HEAD_ON, head_on, wrong), [-1])
            self.assertEqual(call_off(0, system_text("air", []), head_on, wrong), [-1])

    def test_minus_one_before_minus_six(self):
        text = system_text("a", telescopes(1365) + last_mirror(2), AIR)
        self.assertEqual(call_off(0, text, ("1", "0", "0", "0"), ("0", "1", "0")), [-6])
        self.assertEqual(call_off(0, text, ("1", "0", "0", "0"), ("0", "1", str(HIGH))), [-1])

    def test_minus_three_before_minus_five(self):
        text = HEAD_ON + "mirror m after 1 flat;"
        self.assertEqual(off(0, text, (1, 0, 0, 1), (1, 1, 1)), [-3, len(HEAD_ON) + len("mirror "), 3])
        nothing = system_text("air", [])
        self.assertEqual(off(0, nothing, (1, 0, 0, 1), (1, 1, 1)), [-5])
        self.assertEqual(off(0, nothing + "!", (1, 0, 0, 1), (1, 1, 1)), [-3, len(nothing), 1])

    def test_minus_three_before_minus_six(self):
        text = system_text("a", telescopes(1365) + last_mirror(2), AIR)
        self.assertEqual(off(0, text, ALONG, (0, 1, 0)), [-6])
        self.assertEqual(off(0, text + "!", ALONG, (0, 1, 0)), [-3, len(text), 1])

    def test_minus_five_before_minus_six(self):
        large = telescopes(1365) + last_mirror(2)
        plane = [Piece("mirror", 0)]
        self.assertEqual(off_along_the_axis(large, (0, 1, 0)), [-6])
        self.assertEqual(off_along_the_axis(plane + large, (0, 1, 0)), [-5])
        self.assertEqual(off_along_the_axis(large + [Piece("surface", 0, "a", 4)], (0, 1, 0)), [-5])

    def test_minus_five_for_v_nought_before_minus_six(self):
        # The second mirror sends light back along the axis: V is 0, and the sums are too large.
        pieces = telescopes(1100) + last_mirror(1) + last_mirror(1, 3)
        text = system_text("a", pieces, AIR)
        self.assertEqual(parts("a", pieces, 0, ALONG, AIR)[1][1], 0)
        self.assertEqual(sums(0, text, ALONG), [-6])
        self.assertEqual(off(0, text, ALONG, (0, 1, 0)), [-5])


if __name__ == "__main__":
    unittest.main()
