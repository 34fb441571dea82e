"""A picture's dots as they are painted."""

from shapedots.shapes import covered_spans
from shapedots.styles import NO_FILL
from shapedots.windows import Window

WHITE = 16777215


# Painted from the last shape to the first: a dot keeps the first colour it gets, so each is painted once at most.
class Canvas:
    def __init__(self, window):
        self.window = window
        dot_count = window.behind_row * window.row_length
        self.colours = [WHITE] * dot_count
        # A dot that isn't painted leads to itself, others to some dot further on, with painted ones alone between.
        self.leads_to = list(range(dot_count))

    def unpainted_from(self, dot):
        leads_to = self.leads_to
        while leads_to[dot] != dot:
            leads_to[dot] = leads_to[leads_to[dot]]
            dot = leads_to[dot]
        return dot

    # Spans end at the one dot too many of their row at the latest. It is never painted, so there is always a next.
    def paint_span(self, span, colour):
        dot = self.unpainted_from(span[0])
        while dot < span[1]:
            self.colours[dot] = colour
            self.leads_to[dot] = span[1]
            dot = self.unpainted_from(dot + 1)

    def rows(self):
        dots = []
        for row in range(self.window.behind_row):
            begin = row * self.window.row_length
            dots.extend(self.colours[begin:begin + self.window.width])
        return dots


def painted_dots(picture):
    window = Window(picture.width, 0, picture.height)
    canvas = Canvas(window)
    for shape in reversed(picture.shapes):
        if shape.style.fill != NO_FILL:
            for span in covered_spans(shape, window):
                canvas.paint_span(span, shape.style.fill)
    return canvas.rows()
