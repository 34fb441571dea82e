"""A path's letters, and the lines they tell."""

from shapedots.places import fine
from shapedots.reader import Reader
from shapedots.refusals import WrongText
from shapedots.rows import read_row
from shapedots.signs import BLANK

ROW_LENGTHS = {"M": 2, "L": 2, "H": 1, "V": 1, "Q": 4, "C": 6}
PATH_LETTERS = "MLHVQCZmlhvqcz"
FARTHEST = 65536
CURVE_PIECES = 16


class Pen:
    def __init__(self):
        self.lines = []
        self.stands = (0, 0)
        self.line_begin = (0, 0)

    def begin_line(self, place):
        self.lines.append([fine(place)])
        self.stands = place
        self.line_begin = place

    def go_straight(self, place):
        self.lines[-1].append(fine(place))
        self.stands = place

    def go_curved(self, told):
        corners = [self.stands] + told
        for k in range(1, CURVE_PIECES + 1):
            self.lines[-1].append(weighed(corners, curve_weights(k, len(corners))))
        self.stands = told[-1]


# How much each corner counts, in fine steps: all of them together one whole.
def curve_weights(k, corner_count):
    rest = CURVE_PIECES - k
    if corner_count == 3:
        return (16 * rest * rest, 32 * k * rest, 16 * k * k)
    return (rest * rest * rest, 3 * k * rest * rest, 3 * k * k * rest, k * k * k)


def weighed(corners, weights):
    return (
        sum([corner[0] * weight for corner, weight in zip(corners, weights)]),
        sum([corner[1] * weight for corner, weight in zip(corners, weights)]),
    )


# The places between on a curve need no look: they lie among those told and the one stood at.
def check_place(place):
    if abs(place[0]) > FARTHEST or abs(place[1]) > FARTHEST:
        raise WrongText()


def told_places(stands, letter, row):
    base = stands if letter.islower() else (0, 0)
    if letter.upper() == "H":
        return [(base[0] + row[0], stands[1])]
    if letter.upper() == "V":
        return [(stands[0], base[1] + row[0])]
    return [(base[0] + row[k], base[1] + row[k + 1]) for k in range(0, len(row), 2)]


def follow_row(pen, letter, row, begins):
    told = told_places(pen.stands, letter, row)
    for place in told:
        check_place(place)
    if begins:
        pen.begin_line(told[0])
    elif len(told) == 1:
        pen.go_straight(told[0])
    else:
        pen.go_curved(told)


# Of the rows of M the first alone begins a line.
def follow_rows(pen, letter, numbers):
    length = ROW_LENGTHS[letter.upper()]
    if len(numbers) == 0 or len(numbers) % length != 0:
        raise WrongText()
    for first in range(0, len(numbers), length):
        begins = first == 0 and letter.upper() == "M"
        follow_row(pen, letter, numbers[first:first + length], begins)


# Behind Z a new line is begun at once: if M follows, the one place left alone covers nothing.
def follow_letter(pen, letter, numbers):
    if letter.upper() != "Z":
        follow_rows(pen, letter, numbers)
    elif len(numbers) == 0:
        pen.begin_line(pen.line_begin)
    else:
        raise WrongText()


def read_path(value):
    reader = Reader(value)
    pen = Pen()
    reader.take_all(BLANK)
    if not reader.ended() and not reader.sees_one("Mm"):
        raise WrongText()
    while not reader.ended():
        letter = reader.take_one(PATH_LETTERS)
        follow_letter(pen, letter, read_row(reader))
    return pen.lines
