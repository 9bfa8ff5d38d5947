"""A system's text: blanks, tokens, the grammar, and the six kinds of faults at their places."""

import unittest

from helper import RAYS, RUN, call, call_off, call_part, call_petzval, call_shift

MARKER = "|"
AIR = "glass a:1,1,1;"
START = AIR + "start a;"
ELEMENT = "surface s after 0 into a {};"
TOKENS = (
    "glass", "air", ":", "1", ",", "1.5", ",", "3", "/", "2", ";", "glass", "g", ":", "3", "/", "2", ",", "2", ",",
    "2.0", ";", "start", "air", ";",
    "surface", "a", "after", "1", "/", "2", "into", "g", "curve", "-", "1", "/", "10", "conic", "-", "0.5",
    "clear", "3", "/", "4", ";",
    "mirror", "b", "after", "2", "radius", "-", "7.5", "conic", "2", ";",
    "stop", "c", "after", "0", "clear", "1", ";",
    "surface", "d", "after", "0.25", "into", "air", "flat", "conic", "1", "clear", "2.5", ";",
    "stop", "e", "after", "3", ";",
)
STARTED = TOKENS.index("start") + 3
# Behind so many tokens the text may end.
ENDS = [STARTED] + [i + 1 for i, token in enumerate(TOKENS) if token == ";" and i > STARTED]


def answer(text):
    """What sums answers; a text at fault is refused alike by every call."""
    found = call(0, text, RAYS)
    for other in (
        call_part(0, 0, text, RAYS), call_shift(0, text, RAYS, "1/2"), call_off(0, text, RAYS, ("0", "1", "0")),
        call_petzval(0, text),
    ):
        if -3 in (found[0], other[0]) and other != found:
            raise AssertionError(f"not refused alike: {text}")
    return found


def whole(pieces, between=" "):
    """The pieces as a text, and where each begins."""
    text = ""
    places = []
    for piece in pieces:
        text += between
        places.append(len(text))
        text += piece
    return text, places


class Texts(unittest.TestCase):
    def taken(self, text):
        self.assertGreater(answer(text)[0], 0, text)

    def same(self, text, other):
        self.taken(text)
        self.assertEqual(answer(text), answer(other), text)

    def fault(self, marked, kind):
        """The marker stands where the fault is; it is taken out first."""
        text = marked.replace(MARKER, "")
        self.assertEqual(answer(text), [-3, marked.index(MARKER), kind], text)


class BlanksAndTokens(Texts):
    def test_the_empty_text(self):
        self.fault("|", 2)

    def test_blanks_alone(self):
        self.fault(" \t\r\n|", 2)
        self.fault("# nothing|", 2)
        self.fault("# nothing\n |", 2)

    def test_all_blanks_between_all_tokens(self):
        plain = answer(whole(TOKENS)[0])
        self.assertGreater(plain[0], 0)
        for between in ("\t", "\n", "\r", " \r\n\t ", "#x\n", "##\n#\n", "# glass \xff\x00\r;\n", " # , \n\r"):
            self.assertEqual(answer(whole(TOKENS, between)[0]), plain)
            self.assertEqual(answer(whole(TOKENS, between)[0] + between), plain)

    def test_no_blank_where_none_is_needed(self):
        self.same(
            "glass a:1,1,1;glass b:3/2,2,2;start a;surface s after 1/2 into b radius-2 conic-1/3 clear 4;",
            "glass a : 1 , 1 , 1 ; glass b : 3 / 2 , 2 , 2 ; start a ; "
            "surface s after 1 / 2 into b radius - 2 conic - 1 / 3 clear 4 ;",
        )

    def test_a_comment_that_the_end_of_the_text_ends(self):
        self.same(RUN + "# the end", RUN)
        self.same(RUN + "#", RUN)
        self.fault(START + "stop s after 1 #;\r|", 2)

    def test_other_bytes_are_no_blanks(self):
        for byte in "\x00\x0b\x0c\x1f\x7f\x85\xa0\xff!\"$%&'()*+.<=>?@[\\]^`{}~":
            self.fault("|" + byte + RUN, 1)
            self.fault(RUN + "|" + byte, 1)
            self.fault(AIR + "start|" + byte + "a;", 1)

    def test_nothing_is_a_token_before_each_token(self):
        for i in range(len(TOKENS) + 1):
            text, places = whole(TOKENS[:i] + ("!",) + TOKENS[i:])
            self.assertEqual(answer(text), [-3, places[i], 1], text)

    def test_nothing_behind_no_token_is_looked_at(self):
        self.fault(START + "stop s after |! glass glass", 1)
        self.fault(START + "|! ~", 1)

    def test_names(self):
        for name in ("_", "__", "A", "z9", "_9", "Glass", "glass_", "glass1", "aftera", "name", "n" * 32, "_" + "7" * 31):
            self.taken(f"glass {name}:1,1,1;start {name};stop {name} after 1;surface q after 0 into {name} curve 1;")

    def test_names_hang_on_their_case(self):
        self.taken("glass a:1,1,1;glass A:2,2,2;start A;stop b after 0;stop B after 0;")
        self.fault("glass a:1,1,1;start |A;", 4)

    def test_names_of_33_bytes(self):
        for name in ("n" * 33, "_" * 33, "a" + "0" * 32, "n" * 32 + "after", "n" * 32000):
            self.fault(f"glass |{name}:1,1,1;start a;", 1)
            self.fault(f"{AIR}start |{name};", 1)
            self.fault(f"{START}stop |{name} after 0;", 1)
            self.fault(f"{START}surface s after 0 into |{name} flat;", 1)

    def test_words_where_a_name_is_asked(self):
        for word in "after clear conic curve flat glass into mirror radius start stop surface".split(" "):
            self.fault(f"glass |{word}:1,1,1;", 2)
            self.fault(f"{AIR}start |{word};", 2)
            self.fault(f"{START}stop |{word} after 0;", 2)
            self.fault(f"{START}mirror |{word} after 0 flat;", 2)
            self.fault(f"{START}surface |{word} after 0 into a flat;", 2)
            self.fault(f"{START}surface s after 0 into |{word} flat;", 2)

    def test_names_where_a_word_is_asked(self):
        self.fault("|Glass a:1,1,1;start a;", 2)
        self.fault(AIR + "|starts a;", 2)
        self.fault(START + "|lens s after 0;", 2)
        self.fault(START + "stop s |After 0;", 2)
        self.fault(START + "surface s after 0 |in a flat;", 2)
        self.fault(START + "mirror s after 0 |plane;", 2)

    def test_numbers_of_18_and_19_digits(self):
        for number in ("1" * 18, "0" * 17 + "1", "1." + "2" * 17, "12345678.1234567890", "0" * 17 + ".5"):
            self.taken(f"{START}stop s after {number};")
            self.fault(f"{START}stop s after |{number}0;", 1)
            self.fault(f"{START}stop s after |0{number};", 1)
        for number in ("1" * 19, "0" * 19, "1." + "2" * 18, "1" * 18 + ".2", "123456789.1234567890", "1" * 30000):
            self.fault(f"{START}stop s after |{number};", 1)
            self.fault(f"glass a:|{number},1,1;", 1)
        self.taken(f"{START}stop s after {'1' * 18}/{'3' * 18};")
        self.fault(f"{START}stop s after {'1' * 18}/|{'3' * 19};", 1)

    def test_what_may_not_stand_behind_a_number(self):
        for behind in ("a", "Z", "_", ".", "into", ".a", "._", "..", ". ", ".;", "e5", "x1"):
            for number in ("1", "12", "1.5", "007", "1" * 18):
                self.fault(f"{START}stop s after |{number}{behind};", 1)
                self.fault(f"{START}stop s after 1/|{number}{behind};", 1)
        self.fault(START + "stop s after |1.2.3;", 1)
        self.fault(START + "stop s after |.5;", 1)
        self.fault(START + "stop s after |1.#\n5;", 1)

    def test_what_may_stand_behind_a_number(self):
        self.taken(START + "stop s after 1#\n;")
        self.taken(START + "stop s after 1.5\t;")
        self.fault(START + "stop s after 1|\xe9;", 1)
        self.fault(START + "stop s after 1|:;", 2)
        self.fault(START + "stop s after 1|-;", 2)


class Grammar(Texts):
    def test_a_text_that_ends_too_early(self):
        for i in range(len(TOKENS) + 1):
            text = whole(TOKENS[:i])[0]
            for ended in (text, text + " ", text + "\n# left\n"):
                if i in ENDS:
                    self.assertNotEqual(answer(ended)[0], -3, ended)
                else:
                    self.assertEqual(answer(ended), [-3, len(ended), 2], ended)

    def test_a_token_that_can_stand_nowhere_here(self):
        for i in range(len(TOKENS) + 1):
            for wrong in ("start", ":") if i < 22 else ("glass", "start", ":", ","):
                if TOKENS[i:i + 1] == (wrong,) or i in (11, 22) and wrong in ("glass", "start"):
                    continue
                text, places = whole(TOKENS[:i] + (wrong,) + TOKENS[i:])
                self.assertEqual(answer(text), [-3, places[i], 2], text)

    def test_each_token_once_left_out(self):
        # A sign, what a fraction has behind its whole, and a stop's clear may be missing.
        for i, token in enumerate(TOKENS):
            text, places = whole(TOKENS[:i] + TOKENS[i + 1:])
            if token == "-":
                self.assertNotEqual(answer(text)[0], -3, text)
            elif token in (":", ",", ";", "/", "after", "into", "start", "curve", "radius", "conic", "clear"):
                self.assertEqual(answer(text), [-3, places[i] if i < len(places) else len(text), 2], text)

    def test_order_of_the_whole(self):
        self.fault("|start a;", 2)
        self.fault("|surface s after 0 into a flat;", 2)
        self.fault(AIR + "|stop s after 0;", 2)
        self.fault(START + "|glass b:1,1,1;", 2)
        self.fault(START + "|start a;", 2)
        self.fault(START + "|;", 2)
        self.fault(START + "|1;", 2)
        self.fault(AIR + "|;", 2)

    def test_numbers_in_a_glass(self):
        self.fault("glass a:|-1,1,1;", 2)
        self.fault("glass a:1,1|;", 2)
        self.fault("glass a:1,1,1|,1;", 2)
        self.fault("glass a:1|;", 2)
        self.fault("glass a:|b,1,1;", 2)
        self.fault("glass a:1 |1,1;", 2)

    def test_whole_and_pointed(self):
        self.fault(START + "stop s after 1.5|/2;", 2)
        self.fault(START + "stop s after 1/|2.5;", 2)
        self.fault(START + "stop s after 1/|0.0;", 2)
        self.fault(START + "stop s after 1/|-2;", 2)
        self.fault(START + "stop s after 1/2|/3;", 2)
        self.fault(START + "stop s after 1/|;", 2)

    def test_values(self):
        self.taken(START + ELEMENT.format("curve - 1 / 2 conic - 3.5"))
        self.fault(START + ELEMENT.format("curve -|-1"), 2)
        self.fault(START + ELEMENT.format("curve |/2"), 2)
        self.fault(START + ELEMENT.format("curve|"), 2)
        self.fault(START + ELEMENT.format("radius -|"), 2)
        self.fault(START + ELEMENT.format("flat conic|"), 2)

    def test_numbers_that_have_no_sign(self):
        self.fault(START + "stop s after |-1;", 2)
        self.fault(START + "stop s after 1 clear |-1;", 2)
        self.fault(START + "mirror s after |-1 flat;", 2)

    def test_shapes(self):
        self.fault(START + ELEMENT.format("|"), 2)
        self.fault(START + ELEMENT.format("|conic 1"), 2)
        self.fault(START + ELEMENT.format("|clear 1"), 2)
        self.fault(START + ELEMENT.format("flat |flat"), 2)
        self.fault(START + ELEMENT.format("flat |curve 1"), 2)
        self.fault(START + ELEMENT.format("curve 1 |radius 1"), 2)
        self.fault(START + ELEMENT.format("flat |1"), 2)
        self.fault(START + ELEMENT.format("flat clear 1 |conic 1"), 2)
        self.fault(START + ELEMENT.format("flat conic 1 |conic 1"), 2)
        self.fault(START + ELEMENT.format("flat clear 1 |clear 1"), 2)

    def test_each_element_has_its_own(self):
        self.fault(START + "stop s after 0 |flat;", 2)
        self.fault(START + "stop s after 0 |conic 1;", 2)
        self.fault(START + "stop s after 0 |into a;", 2)
        self.fault(START + "mirror s after 0 |into a flat;", 2)
        self.fault(START + "mirror s after 0|;", 2)
        self.fault(START + "surface s after 0 |flat;", 2)
        self.fault(START + "surface s |into a after 0 flat;", 2)


class Faults(Texts):
    def test_three_names_taken(self):
        self.fault("glass a:1,1,1;glass |a:1,1,1;", 3)
        self.fault("glass a:1,1,1;glass b:1,1,1;glass |a 0!", 3)
        self.fault(START + "stop s after 0;stop |s after 0;", 3)
        self.fault(START + "stop s after 0;mirror t after 0 curve 1;surface |s after 0;", 3)
        self.fault(START + "stop s after 0;stop t after 0;mirror |t", 3)

    def test_three_a_glass_and_an_element_may_share_a_name(self):
        self.taken(START + "stop a after 0;")

    def test_four_no_such_glass(self):
        self.fault(AIR + "start |b;", 4)
        self.fault(AIR + "start |b!", 4)
        self.fault(START + "surface s after 0 into |s flat;", 4)
        self.fault(START + "stop t after 0;surface s after 0 into |t flat;", 4)
        self.fault("glass aa:1,1,1;start |a;", 4)

    def test_five_the_65th_glass(self):
        glasses = [f"glass g{i}:1,1,1;" for i in range(65)]
        self.taken("".join(glasses[:64]) + "start g63;")
        self.fault("".join(glasses[:64]) + "|" + glasses[64] + "start g0;", 5)
        self.fault("".join(glasses[:64]) + "|glass", 5)
        self.fault("".join(glasses[:64]) + "|glass g0:0,0,0", 5)
        self.fault("".join(glasses[:64]) + "|stop", 2)

    def test_five_the_65th_element(self):
        stops = "".join([f"stop s{i} after 0;" for i in range(64)])
        self.taken(START + stops)
        self.taken(START + stops + " # the end")
        for word in ("stop", "mirror", "surface"):
            self.fault(f"{START}{stops}|{word} s64 after 0;", 5)
            self.fault(f"{START}{stops} |{word}", 5)
            self.fault(f"{START}{stops}|{word} s0 !", 5)
        self.fault(START + stops + "|glass", 2)
        self.fault(START + stops + "|!", 1)

    def test_five_elements_of_all_kinds_count_together(self):
        kinds = ("stop {} after 0;", "mirror {} after 0 curve 1;", "surface {} after 0 into a curve 1;")
        many = "".join([kinds[i % 3].format(f"s{i}") for i in range(64)])
        self.assertNotEqual(answer(START + many)[0], -3)
        self.fault(START + many + "|stop t after 0;", 5)

    def test_six_nought_behind_a_slash(self):
        for nought in ("0", "000"):
            self.fault(f"glass a:1/|{nought},1,1;", 6)
            self.fault(f"glass a:0/|{nought},1,1;", 6)
            self.fault(f"{START}stop s after 1/|{nought}!", 6)
            self.fault(f"{START}stop s after 1 clear 1/|{nought};", 6)
            self.fault(START + ELEMENT.format(f"curve -1/|{nought}"), 6)
            self.fault(START + ELEMENT.format(f"radius 1/|{nought}"), 6)
            self.fault(START + ELEMENT.format(f"flat conic 1/|{nought}"), 6)

    def test_six_an_index_below_one(self):
        for low in ("0", "0.5", "1/2", "0/7", "0.99999999999999999", "999999999999999998/999999999999999999"):
            self.fault(f"glass a:{low}|,1,1;start a;", 6)
            self.fault(f"glass a:1,{low} |,1;start a;", 6)
            self.fault(f"glass a:1,1,{low} #\n|;start a;", 6)
        for high in ("1", "1.0", "2/2", "1.00000000000000001", "999999999999999999/999999999999999998"):
            self.taken(f"glass a:{high},{high},{high};start a;")

    def test_six_a_radius_of_nought(self):
        for nought in ("0", "-0", "0.00", "0/3", "-0/3", "- 000"):
            self.fault(START + ELEMENT.format(f"radius {nought}|"), 6)
            self.fault(START + ELEMENT.format(f"radius {nought} |conic 1"), 6)
            self.fault(START + ELEMENT.format(f"radius {nought} |clear 1"), 6)
            self.fault(f"{START}mirror s after 0 radius {nought} |;", 6)

    def test_six_a_clear_of_nought(self):
        for nought in ("0", "0.0", "0/3", "000"):
            self.fault(START + ELEMENT.format(f"flat clear {nought}|"), 6)
            self.fault(f"{START}mirror s after 0 curve 1 clear {nought} |;", 6)
            self.fault(f"{START}stop s after 0 clear {nought} |;!", 6)

    def test_noughts_that_may_stand(self):
        self.taken(START + "stop s after 0;stop t after 0/5;stop u after 0.0;")
        self.assertNotEqual(answer(START + ELEMENT.format("curve 0 conic 0"))[0], -3)
        self.assertNotEqual(answer(START + ELEMENT.format("curve -0 conic -0.0"))[0], -3)

    def test_two_at_one_place(self):
        # No token, or one that can't stand, where a number before it is refused as well.
        for wrong, kind in (("!", 1), ("1a", 1), ("flat", 2), ("5", 2), (":", 2), ("", 2)):
            self.fault(f"glass a:0 |{wrong}", kind)
            self.fault(f"glass a:1,1/2 |{wrong}", kind)
            self.fault(f"glass a:1,1,0.5 |{wrong}", kind)
            self.fault(f"{START}stop s after 0 clear 0 |{wrong}", kind)
            self.fault(f"{START}mirror s after 0 radius 0 |{wrong}", kind)
            self.fault(f"{START}mirror s after 0 flat clear 0 |{wrong}", kind)
        self.fault("glass a:0|;", 2)
        self.fault("glass a:1,1,0|,", 2)
        self.fault("glass a:0.5|/2,1,1;", 2)
        self.fault(START + "mirror s after 0 radius 0.0|/2;", 2)
        self.fault(START + "stop s after 0 clear 0 |conic", 2)

    def test_the_first_by_place(self):
        self.fault("glass a:1,1,0|;glass a:1,1,1;start b;!", 6)
        self.fault("glass a:1,1,1;glass |a:0,1,1;start b;", 3)
        self.fault("glass a:1,1,1;start |b;stop s after 1/0;", 4)
        self.fault(START + "stop s after 1/|0;stop s after 0;", 6)
        self.fault(START + "stop s after 0;stop |s after 1/0;", 3)
        self.fault(START + "surface s after 0 into |b radius 0;", 4)


if __name__ == "__main__":
    unittest.main()
