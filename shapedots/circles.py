"""Circles, which a matrix may stretch and slant.

From the circle's middle, by the matrix, to the middle of a dot it is n / 2 to the right and m / 2 down. By the
inverse, with t = a d - b c, the dot's middle is at most r away if

    (d n - c m)^2 + (a m - b n)^2 <= (2 r t)^2.

Times q = b b + d d, with p = a b + c d, this is

    (q n - p m)^2 <= t^2 (4 q r^2 - m^2).

So the dots that are covered lie side by side in each row, and whole numbers are enough to tell both ends.
"""

from shapedots.matrices import moved


class Circle:
    def __init__(self, cx, cy, r):
        self.cx = cx
        self.cy = cy
        self.r = r


# What the rows of a circle have in common, called as above; reach is 4 q r^2.
class Ellipse:
    def __init__(self, circle, matrix):
        self.middle = moved(matrix, (circle.cx, circle.cy))
        self.t = matrix[0] * matrix[3] - matrix[1] * matrix[2]
        self.q = matrix[1] * matrix[1] + matrix[3] * matrix[3]
        self.p = matrix[0] * matrix[1] + matrix[2] * matrix[3]
        self.reach = 4 * self.q * circle.r * circle.r


# The largest whole number whose square is at most the number. The first guess is above it, and each next one is
# nearer without ever going below it.
def whole_root(number):
    if number == 0:
        return 0
    guess = 1 << ((number.bit_length() + 1) // 2)
    nearer = (guess + number // guess) // 2
    while nearer < guess:
        guess = nearer
        nearer = (guess + number // guess) // 2
    return guess


def add_row_span(spans, ellipse, row, window):
    m = 2 * row + 1 - 2 * ellipse.middle[1]
    root = whole_root(ellipse.t * ellipse.t * (ellipse.reach - m * m))
    centre = ellipse.p * m + ellipse.q * (2 * ellipse.middle[0] - 1)
    first = max(0, -((root - centre) // (2 * ellipse.q)))
    behind = min(window.width, (root + centre) // (2 * ellipse.q) + 1)
    if first < behind:
        spans.append((row * window.row_length + first, row * window.row_length + behind))


def circle_spans(circle, matrix, window):
    ellipse = Ellipse(circle, matrix)
    spans = []
    if ellipse.t == 0 or circle.r == 0:
        return spans
    farthest = whole_root(ellipse.reach)
    first = max(window.first_row, -((farthest + 1 - 2 * ellipse.middle[1]) // 2))
    behind = min(window.behind_row, (farthest - 1 + 2 * ellipse.middle[1]) // 2 + 1)
    for row in range(first, behind):
        add_row_span(spans, ellipse, row, window)
    return spans
