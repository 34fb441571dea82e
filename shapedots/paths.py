"""A path's letters, and the places it goes to."""

from shapedots.reader import Reader
from shapedots.refusals import WrongText
from shapedots.rows import read_row
from shapedots.signs import BLANK

ROW_LENGTHS = {"M": 2, "L": 2, "H": 1, "V": 1, "Q": 4, "C": 6}
PATH_LETTERS = "MLHVQCZmlhvqcz"
FARTHEST = 65536


class Pen:
    def __init__(self):
        self.stands = (0, 0)
        self.line_begin = (0, 0)


def check_place(place):
    if abs(place[0]) > FARTHEST or abs(place[1]) > FARTHEST:
        raise WrongText()


def told_places(stands, letter, row):
    base = stands if letter.islower() else (0, 0)
    if letter.upper() == "H":
        return [(base[0] + row[0], stands[1])]
    if letter.upper() == "V":
        return [(stands[0], base[1] + row[0])]
    return [(base[0] + row[k], base[1] + row[k + 1]) for k in range(0, len(row), 2)]


# The places between on a curve need no look: they lie among those told and the one stood at.
def follow_row(pen, letter, row):
    places = told_places(pen.stands, letter, row)
    for place in places:
        check_place(place)
    pen.stands = places[-1]


def follow_rows(pen, letter, numbers):
    length = ROW_LENGTHS[letter.upper()]
    if len(numbers) == 0 or len(numbers) % length != 0:
        raise WrongText()
    follow_row(pen, letter, numbers[:length])
    if letter.upper() == "M":
        pen.line_begin = pen.stands
    for first in range(length, len(numbers), length):
        follow_row(pen, letter, numbers[first:first + length])


def follow_letter(pen, letter, numbers):
    if letter.upper() != "Z":
        follow_rows(pen, letter, numbers)
    elif len(numbers) == 0:
        pen.stands = pen.line_begin
    else:
        raise WrongText()


def check_path(value):
    reader = Reader(value)
    pen = Pen()
    reader.take_all(BLANK)
    if not reader.ended() and not reader.sees_one("Mm"):
        raise WrongText()
    while not reader.ended():
        letter = reader.take_one(PATH_LETTERS)
        follow_letter(pen, letter, read_row(reader))
