"""The rows of a picture that are looked at, and how dots are counted in spans.

A span is a pair of dots: its first, and the one behind its last. Dots are counted from the top left, row by row, each
row one longer than the picture is wide: so the end of one row is not the beginning of the next.
"""


class Window:
    def __init__(self, width, first_row, behind_row):
        self.width = width
        self.row_length = width + 1
        self.first_row = first_row
        self.behind_row = behind_row
