"""The document's own run."""

import unittest

from helper import RAYS, RUN, call, call_off, call_part, call_petzval, call_shift, spoken


class TheRun(unittest.TestCase):
    def test_sums(self):
        self.assertEqual(
            spoken(call(0, RUN, RAYS)),
            "2174311/720000000 -384841/360000000 147271/180000000 1/1500 11399/90000000 577/30000 13/15000",
        )

    def test_part_0(self):
        self.assertEqual(
            spoken(call_part(0, 0, RUN, RAYS)), "1/4500 1/4500 1/4500 1/3000 1/1800 1/150 1/150",
        )

    def test_the_first_surface_alone_has_the_told_part(self):
        first = RUN[:RUN.index("surface b")]
        self.assertEqual(spoken(call(0, first, RAYS)), "1/4500 1/4500 1/4500 1/3000 1/1800 1/150 1/150")

    def test_shift_by_a_half(self):
        self.assertEqual(
            spoken(call_shift(0, RUN, RAYS, "1/2")),
            "2174311/720000000 211649/480000000 483973/960000000 1/1500 808307/640000000 577/30000 629/60000",
        )

    def test_off_of_one_along(self):
        self.assertEqual(spoken(call_off(0, RUN, RAYS, ("0", "1", "0"))), "0 -2174311/141600000")

    def test_petzval(self):
        self.assertEqual(spoken(call_petzval(0, RUN)), "-1/15")

    def test_head_on_at_the_first(self):
        head_on = ("1", "-1/10", "0", "1/10")
        self.assertEqual(call(0, RUN, head_on), [-5])
        self.assertEqual(call_part(0, 0, RUN, head_on), [-5])
        self.assertEqual(call_shift(0, RUN, head_on, "1/2"), [-5])
        self.assertEqual(call_off(0, RUN, head_on, ("0", "1", "0")), [-5])


if __name__ == "__main__":
    unittest.main()
