"""What the attributes of an element must be."""

from shapedots.paths import check_path
from shapedots.reader import Reader
from shapedots.refusals import WrongText
from shapedots.rows import LARGEST, number_within, single_number, whole_row

SHAPES = ("rect", "circle", "polygon", "polyline", "path")
DIGITS_OF_SIXTEEN = "0123456789ABCDEFabcdef"


def needed(attributes, name):
    if name not in attributes:
        raise WrongText()
    return attributes[name]


def check_fill(value):
    if value == "none":
        return
    reader = Reader(value)
    reader.need("#")
    if len(reader.take_all(DIGITS_OF_SIXTEEN)) != 6:
        raise WrongText()
    reader.need_end()


def check_paint(attributes):
    if "fill" in attributes:
        check_fill(attributes["fill"])
    if "fill-rule" in attributes and attributes["fill-rule"] not in ("nonzero", "evenodd"):
        raise WrongText()


def check_rect(attributes):
    single_number(attributes.get("x", "0"))
    single_number(attributes.get("y", "0"))
    number_within(needed(attributes, "width"), 0, LARGEST)
    number_within(needed(attributes, "height"), 0, LARGEST)


def check_circle(attributes):
    single_number(attributes.get("cx", "0"))
    single_number(attributes.get("cy", "0"))
    number_within(needed(attributes, "r"), 0, LARGEST)


def check_points(attributes):
    if len(whole_row(needed(attributes, "points"))) % 2 != 0:
        raise WrongText()


def check_shape(name, attributes):
    if name == "rect":
        check_rect(attributes)
    elif name == "circle":
        check_circle(attributes)
    elif name == "path":
        check_path(needed(attributes, "d"))
    else:
        check_points(attributes)
