"""How numbers are told: exact texts, one blank between two."""

from thirdsums.exact import fraction
from thirdsums.refusals import TooLarge

MOST_BITS = 4096


def exact_text(top, bottom):
    if top.bit_length() > MOST_BITS or bottom.bit_length() > MOST_BITS:
        raise TooLarge()
    if bottom == 1:
        return str(top)
    return f"{top}/{bottom}"


def told(pairs):
    texts = []
    for top, bottom in pairs:
        least = fraction(top, bottom)
        texts.append(exact_text(least[0], least[1]))
    signs = [ord(sign) for sign in " ".join(texts)]
    return [len(signs)] + signs
