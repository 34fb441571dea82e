"""The calls."""

from shapedots.canvas import painted_dots
from shapedots.picture import read_picture
from shapedots.refusals import WrongText
from shapedots.shapes import covered_spans, covers_dot
from shapedots.signs import signs_of
from shapedots.styles import NO_FILL
from shapedots.windows import Window

MOST_BYTES = 65536

BEYOND_BOUNDS = -1
NOT_RIGHT = -2
TOO_MANY_DOTS = -3
NONE_PAINTS = -4
NOT_THERE = -5


# What the picture answers, if the text is one that tells a picture.
def answered(text, answer):
    if len(text) > MOST_BYTES:
        return [BEYOND_BOUNDS]
    try:
        picture = read_picture(signs_of(text))
    except WrongText:
        return [NOT_RIGHT]
    return answer(picture)


def size_of(picture):
    return [0, picture.width, picture.height, len(picture.shapes)]


def dots_of(picture, most):
    dot_count = picture.width * picture.height
    if dot_count > most:
        return [TOO_MANY_DOTS]
    return [dot_count] + painted_dots(picture)


def shape_at(picture, x, y):
    if not (0 <= x < picture.width and 0 <= y < picture.height):
        return [NOT_THERE]
    for k in range(len(picture.shapes) - 1, -1, -1):
        shape = picture.shapes[k]
        if shape.style.fill != NO_FILL and covers_dot(shape, x, y, picture.width):
            return [k]
    return [NONE_PAINTS]


def covered_by(picture, k):
    if not 0 <= k < len(picture.shapes):
        return [NOT_THERE]
    window = Window(picture.width, 0, picture.height)
    return [sum([span[1] - span[0] for span in covered_spans(picture.shapes[k], window)])]


def size(text):
    return answered(text, size_of)


def paint(most, text):
    if most < 0:
        return [BEYOND_BOUNDS]
    return answered(text, lambda picture: dots_of(picture, most))


def at(x, y, text):
    return answered(text, lambda picture: shape_at(picture, x, y))


def covers(k, text):
    return answered(text, lambda picture: covered_by(picture, k))
