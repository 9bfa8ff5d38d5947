"""What sums refuses, in which order, and the largest numbers it tells."""

import unittest
from fractions import Fraction

from helper import (
    AIR, BAD_TEXT, BAD_TEXT_FAULT, HEAD_ON, LONGEST, RAYS, RUN, Piece, call, expected, last_mirror, sums, system_text,
    telescopes,
)

F = Fraction


def along_the_axis(pieces):
    return sums(0, system_text("a", pieces, AIR), (1, 0, 0, 0))


class MinusOne(unittest.TestCase):
    def test_lines(self):
        for line in (0, 1, 2):
            self.assertGreater(call(line, RUN, RAYS)[0], 0)
        for line in (3, 4, 255, 256, 2 ** 31, 4294967295):
            self.assertEqual(call(line, RUN, RAYS), [-1])

    def test_each_number(self):
        for place in range(4):
            for wrong in ("", "x", "1/0"):
                rays = list(RAYS)
                rays[place] = wrong
                self.assertEqual(call(0, RUN, rays), [-1])

    def test_texts_of_65536_and_65537_bytes(self):
        plain = call(0, RUN, RAYS)
        for fill in (" ", "\n", "#"):
            self.assertEqual(call(0, RUN + fill * (LONGEST - len(RUN)), RAYS), plain)
            self.assertEqual(call(0, RUN + fill * (LONGEST + 1 - len(RUN)), RAYS), [-1])
        self.assertEqual(call(0, " " * 70000, RAYS), [-1])
        self.assertEqual(call(0, " " * LONGEST, RAYS), [-3, LONGEST, 2])


class Order(unittest.TestCase):
    def test_minus_one_before_minus_three(self):
        self.assertEqual(call(0, BAD_TEXT, RAYS), BAD_TEXT_FAULT)
        self.assertEqual(call(3, BAD_TEXT, RAYS), [-1])
        self.assertEqual(call(0, "!" * (LONGEST + 1), RAYS), [-1])
        for place in range(4):
            rays = list(RAYS)
            rays[place] = "1."
            self.assertEqual(call(0, BAD_TEXT, rays), [-1])
            self.assertEqual(call(0, "", rays), [-1])

    def test_minus_one_before_minus_five(self):
        self.assertEqual(call(0, HEAD_ON, ("1", "0", "0", "1")), [-5])
        self.assertEqual(call(3, HEAD_ON, ("1", "0", "0", "1")), [-1])
        self.assertEqual(call(0, HEAD_ON, ("1", "0", "0", "1/")), [-1])

    def test_minus_three_before_minus_five(self):
        text = HEAD_ON + "mirror m after 1 flat;"
        self.assertEqual(call(0, text, ("1", "0", "0", "1")), [-3, len(HEAD_ON) + len("mirror "), 3])

    def test_minus_five_before_minus_six(self):
        large = telescopes(1100)
        self.assertEqual(along_the_axis(large + last_mirror(1)), [-6])
        plane = [Piece("mirror", 0)]
        self.assertEqual(along_the_axis(large + plane + last_mirror(1)), [-5])
        self.assertEqual(along_the_axis(plane + large + last_mirror(1)), [-5])
        self.assertEqual(along_the_axis(large + last_mirror(1) + [Piece("surface", 0, "a", 2)]), [-5])

    def test_minus_three_before_minus_six(self):
        text = system_text("a", telescopes(1100) + last_mirror(1), AIR)
        self.assertEqual(sums(0, text + "!", (1, 0, 0, 0)), [-3, len(text), 1])


class MinusSix(unittest.TestCase):
    def test_telescopes_have_no_sums(self):
        self.assertEqual(along_the_axis(telescopes(1000)), [0] * 7)

    def test_numerators_at_the_edge(self):
        # 2 * 2 ** 3 * (2 ** 1023) ** 4 is 2 ** 4096.
        wide = telescopes(1023)
        self.assertEqual(along_the_axis(wide + last_mirror(2)), [-6])
        self.assertEqual(along_the_axis(wide + last_mirror(-2)), [-6])
        little = F(1, 2 ** 59)
        largest = (2 ** 59 - 1) * 2 ** 4037
        self.assertEqual(along_the_axis(wide + last_mirror(2, -little)), [-largest, 0, 0, 0, 0, 0, 0])
        self.assertEqual(along_the_axis(wide + last_mirror(-2, -little)), [largest, 0, 0, 0, 0, 0, 0])
        self.assertEqual(along_the_axis(wide + last_mirror(2, F(-1, 2))), [-(2 ** 4095), 0, 0, 0, 0, 0, 0])
        self.assertEqual(along_the_axis(wide + last_mirror(2, 1)), [-6])

    def test_denominators_at_the_edge(self):
        # 2 / 2 ** 4097 is 1 / 2 ** 4096; 2 / 2 ** 4096 is 1 / 2 ** 4095.
        self.assertEqual(along_the_axis(telescopes(-1025) + last_mirror(2)), [-6])
        self.assertEqual(along_the_axis(telescopes(-1025) + last_mirror(-2)), [-6])
        self.assertEqual(along_the_axis(telescopes(-1024) + last_mirror(1)), [F(-1, 2 ** 4095), 0, 0, 0, 0, 0, 0])
        self.assertEqual(along_the_axis(telescopes(-1024) + last_mirror(-1)), [F(1, 2 ** 4095), 0, 0, 0, 0, 0, 0])

    def test_what_was_large_on_the_way_only(self):
        pieces = telescopes(750) + telescopes(-750) + last_mirror(1)
        self.assertEqual(along_the_axis(pieces), [-2, 0, 0, 0, 0, 0, 0])

    def test_distortion_alone(self):
        outcomes = {}
        for power in (650, 675, 700):
            pieces = telescopes(power) + last_mirror(1)
            rays = (F(1), F(0), F(1), F(1))
            wanted = expected("a", pieces, 0, rays, AIR)
            self.assertEqual(sums(0, system_text("a", pieces, AIR), rays), wanted)
            outcomes[power] = len(wanted)
        self.assertEqual(outcomes, {650: 7, 675: 7, 700: 1})

    def test_colour_alone(self):
        # On line 0 all is one medium and nothing bends: only colours have sums, of ever longer terms.
        glasses = dict(AIR)
        for i in range(1, 64):
            glasses[f"g{i}"] = (F(1), 1 + F(1, 10 ** 17 + 6 * i + 1), 1 + F(1, 10 ** 17 + 7 * i + 3))
        rays = (F(1), F(1, 3), F(-1, 5), F(1, 7))
        outcomes = []
        for count in range(64):
            pieces = [Piece("surface", 1, f"g{i}", F(1, i)) for i in range(1, count + 1)]
            wanted = expected("a", pieces, 0, rays, glasses)
            self.assertEqual(sums(0, system_text("a", pieces, glasses), rays), wanted)
            outcomes.append(len(wanted))
        self.assertEqual(outcomes, [7] * outcomes.count(7) + [1] * outcomes.count(1))
        self.assertGreater(outcomes.count(7), 20)
        self.assertGreater(outcomes.count(1), 10)


class Long(unittest.TestCase):
    def test_a_long_system_is_answered(self):
        curves = (F(1, 8), F(-1, 16), F(1, 32), F(1, 4))
        media = ("crown", "air", "flint", "air")
        pieces = []
        for i in range(64):
            if i % 16 == 15:
                pieces.append(Piece("mirror", 1, curve=curves[i % 4], conic=F(1, 2)))
            elif i % 16 == 7:
                pieces.append(Piece("stop", F(1, 2), clear="9"))
            else:
                pieces.append(Piece("surface", F(1, 2), media[i % 4], curves[i % 4], i % 3 - 1))
        rays = (F(1, 2), F(1, 8), F(1), F(1, 4))
        for line in range(3):
            wanted = expected("air", pieces, line, rays)
            self.assertEqual(len(wanted), 7)
            self.assertEqual(sums(line, system_text("air", pieces), rays), wanted)

    def test_a_long_system_of_long_numbers_is_refused(self):
        glasses = [f"glass g{i}:1.{10 ** 16 + 7 * i},{10 ** 18 - 1 - i}/{10 ** 17 + i},1.5;" for i in range(64)]
        rows = [
            f"surface s{i} after {10 ** 18 - 3 - i}/{10 ** 17 + 3 * i} into g{63 - i}"
            f" curve -{10 ** 17 + 9 * i}/{10 ** 18 - 11 - i} conic {10 ** 17 + i}/{10 ** 17 + 2 * i + 1};"
            for i in range(64)
        ]
        text = "".join(glasses) + "start g0;" + "".join(rows)
        rays = (f"{10 ** 18 - 1}/{10 ** 17 + 1}", "1/3", "-22/7", f"1/{10 ** 18 - 1}")
        self.assertEqual(call(1, text, rays), [-6])


if __name__ == "__main__":
    unittest.main()
