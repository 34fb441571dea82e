"""The shapes of a picture, and what their attributes tell."""

from shapedots.circles import Circle, circle_spans
from shapedots.outlines import Outline, outline_spans
from shapedots.paths import read_path
from shapedots.places import fine
from shapedots.refusals import WrongText
from shapedots.rows import LARGEST, number_within, single_number, whole_row
from shapedots.windows import Window

SHAPES = ("rect", "circle", "polygon", "polyline", "path")


class Shape:
    def __init__(self, figure, matrix, style):
        self.figure = figure
        self.matrix = matrix
        self.style = style


def needed(attributes, name):
    if name not in attributes:
        raise WrongText()
    return attributes[name]


def place_told(attributes, x_name, y_name):
    return (single_number(attributes.get(x_name, "0")), single_number(attributes.get(y_name, "0")))


def length_told(attributes, name):
    return number_within(needed(attributes, name), 0, LARGEST)


def read_rect(attributes):
    near = place_told(attributes, "x", "y")
    far = (near[0] + length_told(attributes, "width"), near[1] + length_told(attributes, "height"))
    return Outline([[fine(near), fine((far[0], near[1])), fine(far), fine((near[0], far[1]))]])


def read_circle(attributes):
    middle = place_told(attributes, "cx", "cy")
    return Circle(middle[0], middle[1], length_told(attributes, "r"))


def read_points(attributes):
    row = whole_row(needed(attributes, "points"))
    if len(row) % 2 != 0:
        raise WrongText()
    return Outline([[fine((row[k], row[k + 1])) for k in range(0, len(row), 2)]])


def read_figure(name, attributes):
    if name == "rect":
        return read_rect(attributes)
    if name == "circle":
        return read_circle(attributes)
    if name == "path":
        return Outline(read_path(needed(attributes, "d")))
    return read_points(attributes)


def covered_spans(shape, window):
    if isinstance(shape.figure, Circle):
        return circle_spans(shape.figure, shape.matrix, window)
    return outline_spans(shape.figure, shape.matrix, shape.style.rule, window)


def covers_dot(shape, x, y, width):
    window = Window(width, y, y + 1)
    dot = y * window.row_length + x
    return any([span[0] <= dot < span[1] for span in covered_spans(shape, window)])
