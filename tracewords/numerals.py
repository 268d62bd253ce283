"""Numbers as they are written [91]."""
from math import gcd

from tracewords.ratios import Ratio

DIGITS = "0123456789"


def count_of(text):
    """The COUNT that is written so; None if none is."""
    if len(text) == 0 or not all([sign in DIGITS for sign in text]):
        return None
    if len(text) > 1 and text[0] == "0":
        return None
    return int(text)


def number_of(text):
    """The NUMBER that is written so, a Ratio; None if none is."""
    above, stroke, below = text.removeprefix("-").partition("/")
    top = count_of(above)
    bottom = count_of(below) if stroke == "/" else 1
    if top is None or bottom is None or gcd(top, bottom) != 1:
        # Of 0 and 1 nothing but 1 divides both, so 0 is in lowest terms.
        return None
    is_turned = text[0] == "-"
    if (stroke == "/" and bottom < 2) or (is_turned and top == 0):
        return None
    return Ratio(-top if is_turned else top, bottom)


def counts_of(texts):
    """The list of the COUNTS that are written so; None if one of the texts is none."""
    found = [count_of(text) for text in texts]
    return found if all([one is not None for one in found]) else None


def numbers_of(texts):
    """The list of the NUMBERS that are written so, Ratios; None if one of the texts is none."""
    found = [number_of(text) for text in texts]
    return found if all([one is not None for one in found]) else None
