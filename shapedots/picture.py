"""The picture that a text tells."""

from shapedots.markup import read_tag, skip_blanks_and_notes
from shapedots.matrices import UNMOVED, transformed
from shapedots.reader import Reader
from shapedots.refusals import WrongText
from shapedots.rows import number_within
from shapedots.shapes import SHAPES, Shape, needed, read_figure
from shapedots.styles import BLACK, NONZERO, Style, styled

LARGEST_SIDE = 1024
MOST_GROUPS_AROUND = 16


class Picture:
    def __init__(self, width, height):
        self.width = width
        self.height = height
        self.shapes = []


# An element whose end has not been read yet.
class Holder:
    def __init__(self, name, matrix, style):
        self.name = name
        self.matrix = matrix
        self.style = style


def picture_of(tag):
    if tag.name != "svg":
        raise WrongText()
    width = number_within(needed(tag.attributes, "width"), 1, LARGEST_SIDE)
    height = number_within(needed(tag.attributes, "height"), 1, LARGEST_SIDE)
    return Picture(width, height)


def check_child(tag, holders):
    if holders[-1].name in SHAPES:
        raise WrongText()
    if tag.name not in SHAPES and (tag.name != "g" or len(holders) - 1 > MOST_GROUPS_AROUND):
        raise WrongText()


def read_child(reader, holders, picture):
    reader.need("<")
    tag = read_tag(reader)
    check_child(tag, holders)
    matrix = transformed(holders[-1].matrix, tag.attributes.get("transform", ""))
    style = styled(holders[-1].style, tag.attributes)
    if tag.name in SHAPES:
        picture.shapes.append(Shape(read_figure(tag.name, tag.attributes), matrix, style))
    if not tag.closed:
        holders.append(Holder(tag.name, matrix, style))


def read_inside(reader, picture, style):
    holders = [Holder("svg", UNMOVED, style)]
    while len(holders) > 0:
        skip_blanks_and_notes(reader)
        if reader.skip("</"):
            reader.need(holders.pop().name + ">")
        else:
            read_child(reader, holders, picture)


def read_picture(signs):
    reader = Reader(signs)
    skip_blanks_and_notes(reader)
    reader.need("<")
    tag = read_tag(reader)
    picture = picture_of(tag)
    style = styled(Style(BLACK, NONZERO), tag.attributes)
    if not tag.closed:
        read_inside(reader, picture, style)
    skip_blanks_and_notes(reader)
    reader.need_end()
    return picture
