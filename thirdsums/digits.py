"""Numbers written in digits: how their bytes are read."""

from thirdsums.exact import fraction, negative
from thirdsums.refusals import NotTaken

MINUS = 45
POINT = 46
SLASH = 47
MOST_BYTES = 512
TOO_GREAT = 1000000000000000000


def is_digit(byte):
    return 48 <= byte <= 57


# Where the digits that begin at a place end.
def digits_end(text, place):
    while place < len(text) and is_digit(text[place]):
        place += 1
    return place


def whole_value(digits):
    value = 0
    for byte in digits:
        value = value * 10 + byte - 48
    return value


def pointed_value(front, back):
    bottom = 1
    for byte in back:
        bottom *= 10
    return fraction(whole_value(front + back), bottom)


# A number's text without its sign.
def unsigned_value(text):
    middle = digits_end(text, 0)
    front = text[:middle]
    back = text[middle + 1:]
    if front == []:
        raise NotTaken()
    if middle == len(text):
        return fraction(whole_value(front), 1)
    if back == [] or digits_end(back, 0) < len(back):
        raise NotTaken()
    if text[middle] == POINT:
        return pointed_value(front, back)
    if text[middle] == SLASH and whole_value(back) > 0:
        return fraction(whole_value(front), whole_value(back))
    raise NotTaken()


# The 1,300 digits that a number's text may have are never reached within 512 bytes.
def handed_over(text):
    if len(text) > MOST_BYTES:
        raise NotTaken()
    if text[:1] == [MINUS]:
        value = negative(unsigned_value(text[1:]))
    else:
        value = unsigned_value(text)
    if abs(value[0]) >= TOO_GREAT or value[1] >= TOO_GREAT:
        raise NotTaken()
    return value
