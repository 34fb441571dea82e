"""The calls."""

from shapedots.picture import read_picture
from shapedots.refusals import WrongText
from shapedots.signs import signs_of

MOST_BYTES = 65536

TOO_LONG = -1
NOT_RIGHT = -2


def size(text):
    if len(text) > MOST_BYTES:
        return [TOO_LONG]
    try:
        picture = read_picture(signs_of(text))
    except WrongText:
        return [NOT_RIGHT]
    return [0, picture.width, picture.height, picture.shape_count]
