"""Tags with their attributes, and notes."""

from shapedots.refusals import WrongText
from shapedots.signs import BLANK, LETTERS, STRANGE

NAME_SIGNS = "ABCDEFGHIJKLMNOPQRSTUVWXYZabcdefghijklmnopqrstuvwxyz0123456789-:"


class Tag:
    def __init__(self, name, attributes, closed):
        self.name = name
        self.attributes = attributes
        self.closed = closed


def skip_blanks_and_notes(reader):
    reader.take_all(BLANK)
    while reader.skip("<!--"):
        reader.take_up_to("-->")
        reader.take_all(BLANK)


def read_name(reader):
    return reader.take_one(LETTERS) + reader.take_all(NAME_SIGNS)


def read_value(reader):
    quote = reader.take_one("\"'")
    value = reader.take_up_to(quote)
    if "<" in value or "&" in value or STRANGE in value:
        raise WrongText()
    return value


# Blanks are taken on trial: where no name follows them they stand before the tag's end.
def read_attributes(reader):
    attributes = {}
    while reader.take_all(BLANK) != "" and reader.sees_one(LETTERS):
        name = read_name(reader)
        if name in attributes:
            raise WrongText()
        reader.need("=")
        attributes[name] = read_value(reader)
    return attributes


# The sign < has been read.
def read_tag(reader):
    name = read_name(reader)
    attributes = read_attributes(reader)
    closed = reader.skip("/")
    reader.need(">")
    return Tag(name, attributes, closed)
