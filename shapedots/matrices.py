"""Matrices a b c d e f, each a tuple of six, and the transforms that tell them."""

from shapedots.reader import Reader
from shapedots.refusals import WrongText
from shapedots.rows import read_row
from shapedots.signs import BLANK, SMALLS

UNMOVED = (1, 0, 0, 1, 0, 0)

# By 0, 90, 180 and 270.
QUARTER_TURNS = ((1, 0, 0, 1, 0, 0), (0, 1, -1, 0, 0, 0), (-1, 0, 0, -1, 0, 0), (0, -1, 1, 0, 0, 0))

FARTHEST_TURN = 270
LARGEST_FACTOR = 1048576
LARGEST_SHIFT = 16777216


# The inner one is done first.
def put_behind(outer, inner):
    return (
        outer[0] * inner[0] + outer[2] * inner[1],
        outer[1] * inner[0] + outer[3] * inner[1],
        outer[0] * inner[2] + outer[2] * inner[3],
        outer[1] * inner[2] + outer[3] * inner[3],
        outer[0] * inner[4] + outer[2] * inner[5] + outer[4],
        outer[1] * inner[4] + outer[3] * inner[5] + outer[5],
    )


def moved(matrix, place):
    return (
        matrix[0] * place[0] + matrix[2] * place[1] + matrix[4],
        matrix[1] * place[0] + matrix[3] * place[1] + matrix[5],
    )


def check_bounds(matrix):
    if max([abs(factor) for factor in matrix[:4]]) > LARGEST_FACTOR:
        raise WrongText()
    if max([abs(shift) for shift in matrix[4:]]) > LARGEST_SHIFT:
        raise WrongText()


def turn(angle):
    if angle % 90 != 0 or abs(angle) > FARTHEST_TURN:
        raise WrongText()
    return QUARTER_TURNS[angle // 90 % 4]


def step_matrix(word, row):
    if word == "translate" and len(row) in (1, 2):
        return (1, 0, 0, 1, row[0], row[1] if len(row) == 2 else 0)
    if word == "scale" and len(row) in (1, 2):
        return (row[0], 0, 0, row[-1], 0, 0)
    if word == "matrix" and len(row) == 6:
        return tuple(row)
    if word == "rotate" and len(row) == 1:
        return turn(row[0])
    raise WrongText()


def read_step(reader):
    word = reader.take_all(SMALLS)
    reader.need("(")
    row = read_row(reader)
    reader.need(")")
    return step_matrix(word, row)


# Every matrix on the way is held to the bounds, not the last alone.
def transformed(outer, transform):
    reader = Reader(transform)
    matrix = outer
    reader.take_all(BLANK)
    while not reader.ended():
        matrix = put_behind(matrix, read_step(reader))
        check_bounds(matrix)
        reader.take_all(BLANK)
    return matrix
