"""Numbers, and rows of numbers."""

from shapedots.reader import Reader
from shapedots.refusals import WrongText
from shapedots.signs import BLANK, DIGITS

MOST_DIGITS = 5
LARGEST = 32767
NUMBER_BEGINS = "+-0123456789"


def read_sign(reader):
    if reader.skip("-"):
        return -1
    reader.skip("+")
    return 1


def read_number(reader):
    sign = read_sign(reader)
    digits = reader.take_all(DIGITS)
    if not 1 <= len(digits) <= MOST_DIGITS or int(digits) > LARGEST:
        raise WrongText()
    return sign * int(digits)


# A number takes all the digits there are, so one that follows without blank or comma has a sign.
def read_row(reader):
    row = []
    reader.take_all(BLANK)
    more = reader.sees_one(NUMBER_BEGINS)
    while more:
        row.append(read_number(reader))
        reader.take_all(BLANK)
        comma = reader.skip(",")
        reader.take_all(BLANK)
        more = comma or reader.sees_one(NUMBER_BEGINS)
    return row


def single_number(value):
    reader = Reader(value)
    number = read_number(reader)
    reader.need_end()
    return number


def number_within(value, least, most):
    number = single_number(value)
    if not least <= number <= most:
        raise WrongText()
    return number


def whole_row(value):
    reader = Reader(value)
    row = read_row(reader)
    reader.need_end()
    return row
