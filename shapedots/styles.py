"""Fills, and the rules by which lines cover dots."""

from shapedots.reader import Reader
from shapedots.refusals import WrongText

DIGITS_OF_SIXTEEN = "0123456789abcdefABCDEF"
BLACK = 0
NO_FILL = -1

NONZERO = "nonzero"
EVENODD = "evenodd"


class Style:
    def __init__(self, fill, rule):
        self.fill = fill
        self.rule = rule


def colour_of(digits):
    colour = 0
    for digit in digits.lower():
        colour = 16 * colour + DIGITS_OF_SIXTEEN.find(digit)
    return colour


def read_fill(value):
    if value == "none":
        return NO_FILL
    reader = Reader(value)
    reader.need("#")
    digits = reader.take_all(DIGITS_OF_SIXTEEN)
    reader.need_end()
    if len(digits) != 6:
        raise WrongText()
    return colour_of(digits)


def read_rule(value):
    if value not in (NONZERO, EVENODD):
        raise WrongText()
    return value


# What isn't told is as of the element around.
def styled(around, attributes):
    fill = read_fill(attributes["fill"]) if "fill" in attributes else around.fill
    rule = read_rule(attributes["fill-rule"]) if "fill-rule" in attributes else around.rule
    return Style(fill, rule)
