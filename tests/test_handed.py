"""Numbers handed over: which are none (-1), and what the others are worth."""

import unittest
from fractions import Fraction

from helper import Piece, call, expected, sums, system_text

MIRROR = [Piece("mirror", 1, curve=Fraction(1, 3), conic=2)]
TEXT = system_text("air", MIRROR)
RAYS = ("1", "1/7", "2", "1/5")
NONE = (
    "", "-", "--1", "+1", "-+1", "1-", "1-2", "1/-2", "-1/-2", "- 1",
    " 1", "1 ", "1 2", "1\n", "\t1", "1 /2", "1/ 2",
    ".", "-.", ".5", "-.5", "5.", "-5.", "1..2", "1.2.3", "1.-2",
    "/", "-/", "/2", "-/2", "1/", "-1/", "1//2", "1/2/3",
    "1/0", "-1/0", "0/0", "1/000", "1.5/2", "1/2.5", "1.5/", "1/.5",
    "1e3", "0x1", "1_000", "a", "1a", "1,5", "\xb2", "1\x00", "\x00", "1:", "1;", "#1",
)
SAME = (
    ("0", "-0"), ("0", "0/5"), ("0", "-0/7"), ("0", "0.0"), ("0", "-0.000"), ("0", "000"),
    ("1", "001"), ("-1", "-001"), ("1", "1.0"), ("1", "01.000"), ("1", "7/7"), ("1", "0007/007"),
    ("3/2", "1.5"), ("3/2", "1.50"), ("3/2", "6/4"), ("-3/2", "-1.5"), ("-3/2", "-6/4"), ("3/2", "0150/0100"),
    ("1/20", "0.05"), ("-1/20", "-0.05"), ("5", "5/1"), ("12345/1000", "12.345"),
)
HIGH = 10 ** 18
TAKEN = (
    str(HIGH - 1), str(1 - HIGH), f"1/{HIGH - 1}", f"-1/{HIGH - 1}", f"{HIGH - 1}/{HIGH - 2}",
    f"{HIGH}/2", f"-{HIGH}/2", f"2/{HIGH}", f"{3 * HIGH}/{3 * HIGH + 3 * HIGH}", f"{HIGH}/{HIGH}",
    "0.000000000000000002", "0.99999999999999999", "999999999999999999.000", "0." + "0" * 300,
    f"{7 * (HIGH - 1)}/{7 * (HIGH - 3)}", f"0/{HIGH}",
)
REFUSED = (
    str(HIGH), str(-HIGH), f"1/{HIGH}", f"-1/{HIGH}", f"{HIGH}/3", f"3/{HIGH}", f"{HIGH}.0",
    f"2/{2 * HIGH}", f"{2 * HIGH}/2", "0.000000000000000001", "0.999999999999999999", "-0.999999999999999999",
    f"{HIGH}/{HIGH - 1}", f"{HIGH - 1}/{HIGH}", f"{7 * HIGH}/7", "9" * 512, "0." + "3" * 510,
)


def with_ray(place, text):
    rays = list(RAYS)
    rays[place] = text
    return rays


class HandedOver(unittest.TestCase):
    def test_none(self):
        for place in range(4):
            for text in NONE + REFUSED:
                with self.subTest(place=place, text=text):
                    self.assertEqual(call(0, TEXT, with_ray(place, text)), [-1])

    def test_needless_signs_and_zeros(self):
        for place in range(4):
            for plain, other in SAME:
                with self.subTest(place=place, text=other):
                    answer = call(0, TEXT, with_ray(place, plain))
                    self.assertGreater(answer[0], 0)
                    self.assertEqual(call(0, TEXT, with_ray(place, other)), answer)

    def test_worth(self):
        for place in range(4):
            for text in TAKEN + ("3/2", "-1.5", "22/7"):
                rays = with_ray(place, text)
                with self.subTest(place=place, text=text):
                    self.assertEqual(sums(0, TEXT, rays), expected("air", MIRROR, 0, rays))

    def test_512_and_513_bytes(self):
        for begun, rest in (("", "1"), ("-", "1"), ("1.", ""), ("-1.", ""), ("1/", "3"), ("", "1/3"), ("-", "2.5")):
            longest = begun + "0" * (512 - len(begun + rest)) + rest
            longer = begun + "0" * (513 - len(begun + rest)) + rest
            self.assertEqual((len(longest), len(longer)), (512, 513))
            for place in range(4):
                with self.subTest(place=place, begun=begun, rest=rest):
                    wanted = expected("air", MIRROR, 0, with_ray(place, Fraction(longest)))
                    self.assertEqual(sums(0, TEXT, with_ray(place, longest)), wanted)
                    self.assertEqual(call(0, TEXT, with_ray(place, longer)), [-1])

    def test_a_thousand_bytes(self):
        for text in ("0" * 1000, "1" * 1000, "-" * 1000, "1." + "0" * 998):
            self.assertEqual(call(0, TEXT, with_ray(2, text)), [-1])


if __name__ == "__main__":
    unittest.main()
