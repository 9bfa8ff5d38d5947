"""Of every call: its arguments, what it gives back, and that nothing is changed or kept.

A case is a call's name and its arguments, with plain texts in the place of lists of bytes.
"""

import inspect
import unittest

from helper import (
    AIR, BAD_TEXT, HEAD_ON, LONGEST, RAYS, RUN, last_mirror, long_glasses, long_surfaces, octets, spoken, system_text,
    telescopes,
)
from thirdsums import system

LARGE = system_text("a", telescopes(1100) + last_mirror(1), AIR)
LARGER = system_text("a", telescopes(1365) + last_mirror(2), AIR)
LONG = system_text("a", long_surfaces(60), long_glasses(60))
ALONG = ("1", "0", "0", "0")
ARGUMENTS = {
    "sums": ["line", "t", "y", "v", "z", "w"],
    "part": ["line", "i", "t", "y", "v", "z", "w"],
    "shift": ["line", "t", "y", "v", "z", "w", "e"],
    "off": ["line", "t", "y", "v", "z", "w", "p", "q", "h"],
    "petzval": ["line", "t"],
}
CASES = (
    ("sums", 0, RUN, *RAYS),
    ("sums", 2, RUN, "-1.50", "2/4", "-0", "003"),
    ("sums", 3, RUN, *RAYS),
    ("sums", 0, RUN, "", "-", "1/0", "x"),
    ("sums", 0, BAD_TEXT, *RAYS),
    ("sums", 0, HEAD_ON, "1", "0", "0", "1"),
    ("sums", 0, LARGE, *ALONG),
    ("part", 0, 0, RUN, *RAYS),
    ("part", 1, 1, RUN, "-1.50", "2/4", "-0", "003"),
    ("part", 3, 0, RUN, *RAYS),
    ("part", 0, 1, RUN, "", "-", "1/0", "x"),
    ("part", 0, 0, BAD_TEXT, *RAYS),
    ("part", 0, 2, RUN, *RAYS),
    ("part", 0, 0, HEAD_ON, "1", "0", "0", "1"),
    ("part", 0, len(telescopes(1100)), LARGE, *ALONG),
    ("shift", 0, RUN, *RAYS, "1/2"),
    ("shift", 1, RUN, "-1.50", "2/4", "-0", "003", "-02.50"),
    ("shift", 3, RUN, *RAYS, "1/2"),
    ("shift", 0, RUN, *RAYS, "1/"),
    ("shift", 0, RUN, "", "-", "1/0", "x", ""),
    ("shift", 0, BAD_TEXT, *RAYS, "1/2"),
    ("shift", 0, HEAD_ON, "1", "0", "0", "1", "-1"),
    ("shift", 0, LARGE, *ALONG, "3"),
    ("off", 0, RUN, *RAYS, "0", "1", "0"),
    ("off", 1, RUN, "-1.50", "2/4", "-0", "003", "-02.50", "1/3", "-7"),
    ("off", 3, RUN, *RAYS, "0", "1", "0"),
    ("off", 0, RUN, *RAYS, "0", "1", "1/"),
    ("off", 0, RUN, "", "-", "1/0", "x", "", ".", "/"),
    ("off", 0, BAD_TEXT, *RAYS, "0", "1", "0"),
    ("off", 0, HEAD_ON, "1", "1", "0", "1", "0", "1", "0"),
    ("off", 0, HEAD_ON, "1", "0", "0", "1", "0", "1", "0"),
    ("off", 0, LARGER, *ALONG, "0", "1", "0"),
    ("petzval", 0, RUN),
    ("petzval", 2, RUN),
    ("petzval", 3, RUN),
    ("petzval", 0, " " * (LONGEST + 1)),
    ("petzval", 0, BAD_TEXT),
    ("petzval", 0, HEAD_ON),
    ("petzval", 0, LONG),
)
# The first case of each call is answered with this.
BEGINS = {
    "sums": "2174311/720000000 -384841/360000000 ",
    "part": "1/4500 1/4500 ",
    "shift": "2174311/720000000 211649/480000000 ",
    "off": "0 -2174311/141600000",
    "petzval": "-1/15",
}
REFUSALS = {
    "sums": {-1, -3, -5, -6},
    "part": {-1, -3, -2, -5, -6},
    "shift": {-1, -3, -5, -6},
    "off": {-1, -3, -5, -6},
    "petzval": {-1, -3, -6},
}


def given(case, kind=list):
    return [kind(octets(value)) if isinstance(value, str) else value for value in case[1:]]


def ask(case, kind=list):
    return getattr(system, case[0])(*given(case, kind))


class Kept(list):
    """A list that may be read alone."""

    def refuse(self, *what):
        raise AssertionError("what is handed in was changed")

    append = extend = insert = remove = pop = clear = sort = reverse = refuse
    __setitem__ = __delitem__ = __iadd__ = __imul__ = refuse


class Interface(unittest.TestCase):
    def test_names_and_order_of_the_arguments(self):
        for name, arguments in ARGUMENTS.items():
            self.assertEqual(list(inspect.signature(getattr(system, name)).parameters), arguments)

    def test_named_arguments(self):
        for name, arguments in ARGUMENTS.items():
            case = [case for case in CASES if case[0] == name][0]
            answer = getattr(system, name)(**dict(zip(arguments, given(case))))
            self.assertEqual(answer, ask(case))
            self.assertTrue(spoken(answer).startswith(BEGINS[name]), spoken(answer))

    def test_each_refusal_is_among_the_cases(self):
        for name, refusals in REFUSALS.items():
            firsts = {ask(case)[0] for case in CASES if case[0] == name}
            self.assertEqual({first for first in firsts if first < 0}, refusals)

    def test_answers_are_lists_of_whole_numbers(self):
        for case in CASES:
            answer = ask(case)
            self.assertIs(type(answer), list)
            self.assertEqual({type(number) for number in answer}, {int})

    def test_how_long_an_answer_is(self):
        for case in CASES:
            answer = ask(case)
            self.assertEqual(len(answer), 3 if answer[0] == -3 else 1 if answer[0] < 0 else answer[0] + 1)


class NothingChanged(unittest.TestCase):
    def test_what_is_handed_in_is_unchanged(self):
        for case in CASES:
            handed = given(case)
            getattr(system, case[0])(*handed)
            self.assertEqual(handed, given(case))

    def test_not_for_a_while_either(self):
        for case in CASES:
            self.assertEqual(ask(case, Kept), ask(case))

    def test_one_list_may_be_handed_in_more_than_once(self):
        one = octets("1")
        ones = ("1", "1", "1", "1")
        self.assertEqual(system.sums(0, octets(RUN), one, one, one, one), ask(("sums", 0, RUN, *ones)))
        self.assertEqual(system.part(0, 1, octets(RUN), one, one, one, one), ask(("part", 0, 1, RUN, *ones)))
        self.assertEqual(system.shift(0, octets(RUN), one, one, one, one, one), ask(("shift", 0, RUN, *ones, "1")))
        self.assertEqual(system.off(0, octets(RUN), *[one] * 7), ask(("off", 0, RUN, *ones, "1", "1", "1")))


class NothingKept(unittest.TestCase):
    def test_a_second_call_answers_the_same(self):
        first = [ask(case) for case in CASES]
        backward = [ask(case) for case in reversed(CASES)]
        self.assertEqual(first, backward[::-1])

    def test_the_same_lists_twice(self):
        for case in CASES:
            handed = given(case)
            function = getattr(system, case[0])
            self.assertEqual(function(*handed), function(*handed))

    def test_an_answer_may_be_changed_by_who_asked(self):
        for case in CASES:
            answer = ask(case)
            copy = list(answer)
            answer.append(7)
            answer[0] = 99
            self.assertEqual(ask(case), copy)


if __name__ == "__main__":
    unittest.main()
