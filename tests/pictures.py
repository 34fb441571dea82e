"""What the tests share: texts made short, and the checks that most of them make."""

import unittest

from shapedots.drawing import size

WRONG = [-2]


def bytes_of(text):
    return list(text.encode("latin-1"))


def svg(inside="", more=""):
    return f'<svg width="20" height="10"{more}>{inside}</svg>'


def path(d):
    return svg(f'<path d="{d}"/>')


def polyline(points):
    return svg(f'<polyline points="{points}"/>')


def moved(transform, inside=None):
    if inside is None:
        return svg(f'<circle r="1" transform="{transform}"/>')
    return svg(f'<g transform="{transform}">{inside}</g>')


class SizeTest(unittest.TestCase):
    def right(self, text, shapes, width=20, height=10):
        with self.subTest(text=text[:200]):
            self.assertEqual(size(bytes_of(text)), [0, width, height, shapes])

    def wrong(self, text):
        with self.subTest(text=text[:200]):
            self.assertEqual(size(bytes_of(text)), WRONG)
