"""What the tests share: texts made short, and the checks that most of them make."""

import unittest

from shapedots.drawing import paint, size

WRONG = [-2]
WHITE = 0xFFFFFF
MOST = 900000

# Every shape, every kind of transform, groups, notes: a text in which much is read.
MANY = """
<!-- a picture of everything -->
<svg xmlns="http://www.w3.org/2000/svg" width="640" height='480' fill="#00fF7a" fill-rule="evenodd">
  <rect x="1" y="-2" width="30" height="40"/>
  <g fill="none" transform="translate(3) rotate(90)"><!-- a group -->
    <circle cx="5" cy="6" r="7"></circle>
    <g transform=" scale(2, -1)\tmatrix(1 0 0 1 -5-6)\r\n">
      <polygon points="0,0 10,0 10,10" fill="#123456"> <!-- none --> </polygon>
      <polyline points="" fill-rule='nonzero' />
    </g>
  </g>
  <path d="M 0 0 l 10 0 H 5 v 5 Q 1 2 3 4 c 1 2 3 4 5 6 z" fill="none"/>
</svg>
<!-- behind --> <!-- and again -->
"""


def bytes_of(text):
    return list(text.encode("latin-1"))


def svg(inside="", more="", width=20, height=10):
    return f'<svg width="{width}" height="{height}"{more}>{inside}</svg>'


def path(d):
    return svg(f'<path d="{d}"/>')


def polyline(points):
    return svg(f'<polyline points="{points}"/>')


def moved(transform, inside=None):
    if inside is None:
        return svg(f'<circle r="1" transform="{transform}"/>')
    return svg(f'<g transform="{transform}">{inside}</g>')


def of_length(length):
    text = svg('<rect width="1" height="1"/>')
    return text + " " * (length - len(text))


def drawn(inside, width=12, height=8, more=""):
    """The picture as rows of signs: # for a dot that isn't white."""
    answer = paint(MOST, bytes_of(svg(inside, more, width, height)))
    if answer[0] != width * height:
        raise ValueError(f"refused: {answer[0]}")
    signs = "".join("." if dot == WHITE else "#" for dot in answer[1:])
    return [signs[begin:begin + width] for begin in range(0, len(signs), width)]


class SizeTest(unittest.TestCase):
    def right(self, text, shapes, width=20, height=10):
        with self.subTest(text=text[:200]):
            self.assertEqual(size(bytes_of(text)), [0, width, height, shapes])

    def wrong(self, text):
        with self.subTest(text=text[:200]):
            self.assertEqual(size(bytes_of(text)), WRONG)


class DrawnTest(unittest.TestCase):
    def drawn_as(self, inside, *rows):
        with self.subTest(inside=inside):
            self.assertEqual(drawn(inside, len(rows[0]), len(rows)), list(rows))

    def alike(self, inside, *others):
        expected = drawn(inside)
        self.assertTrue(any("#" in row for row in expected), inside)
        for other in others:
            with self.subTest(inside=inside, other=other):
                self.assertEqual(drawn(other), expected)

    def empty(self, *insides):
        for inside in insides:
            with self.subTest(inside=inside):
                self.assertNotIn("#", "".join(drawn(inside)))
