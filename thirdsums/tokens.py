"""The tokens of a system's text.

A token is a tuple: its kind, the place of its first byte, the place behind its last.
The kind of a word or a mark is its own text; the others are name, whole and pointed,
end where the text ends, and none where no token begins.
"""

from thirdsums.digits import POINT, digits_end, is_digit

WORDS = (
    "after", "clear", "conic", "curve", "flat", "glass", "into", "mirror", "radius", "start", "stop", "surface",
)
MARKS = ":,;/-"
HASH = 35
LINE_END = 10
MOST_NAME_BYTES = 32
MOST_DIGITS = 18


def begins_name(byte):
    return 65 <= byte <= 90 or 97 <= byte <= 122 or byte == 95


def goes_on_name(byte):
    return begins_name(byte) or is_digit(byte)


def blanks_end(text, place):
    comment = False
    while place < len(text):
        byte = text[place]
        if byte == HASH:
            comment = True
        if byte == LINE_END:
            comment = False
        if not comment and byte not in (32, 9, 10, 13):
            break
        place += 1
    return place


def word_or_name(piece):
    for word in WORDS:
        if piece == [ord(sign) for sign in word]:
            return word
    return "name"


def name_token(text, start):
    end = start
    while end < len(text) and goes_on_name(text[end]):
        end += 1
    if end - start > MOST_NAME_BYTES:
        return ("none", start, start)
    return (word_or_name(text[start:end]), start, end)


def bars_number(text, place):
    return place < len(text) and (goes_on_name(text[place]) or text[place] == POINT)


def number_token(text, start):
    middle = digits_end(text, start)
    kind = "whole"
    end = middle
    count = middle - start
    if text[middle:middle + 1] == [POINT]:
        kind = "pointed"
        end = digits_end(text, middle + 1)
        count = end - start - 1
    if end == middle + 1 or count > MOST_DIGITS or bars_number(text, end):
        return ("none", start, start)
    return (kind, start, end)


# The first token at a place or behind it.
def token_from(text, place):
    start = blanks_end(text, place)
    if start == len(text):
        return ("end", start, start)
    if begins_name(text[start]):
        return name_token(text, start)
    if is_digit(text[start]):
        return number_token(text, start)
    for mark in MARKS:
        if text[start] == ord(mark):
            return (mark, start, start + 1)
    return ("none", start, start)
