"""Pictures made by chance (from a seed), and what the calls must answer of them, told slowly, dot by dot.

A picture is kept as values, from which both its text and the answers are made: nothing here reads a text.
"""

import random
from fractions import Fraction

HALF = Fraction(1, 2)
ROW_LENGTHS = {"M": 2, "L": 2, "H": 1, "V": 1, "Q": 4, "C": 6, "Z": 0}
TURNS = {0: (1, 0, 0, 1), 90: (0, 1, -1, 0), 180: (-1, 0, 0, -1), 270: (0, -1, 1, 0)}


class Element:
    """name; own: what its attributes tell; steps: its transform; fill, rule: None if not told; inner: of g and svg."""

    def __init__(self, name, own, steps=(), fill=None, rule=None, inner=()):
        self.name = name
        self.own = own
        self.steps = list(steps)
        self.fill = fill
        self.rule = rule
        self.inner = list(inner)

    def text(self):
        told = dict(self.own)
        if self.name == "path":
            told = {"d": "".join(letter + " ".join(map(str, row)) for letter, row in self.own["d"])}
        if self.name in ("polygon", "polyline"):
            told = {"points": " ".join(f"{x},{y}" for x, y in self.own["points"])}
        if self.steps:
            told["transform"] = " ".join(f"{word}({','.join(map(str, row))})" for word, row in self.steps)
        if self.fill is not None:
            told["fill"] = self.fill
        if self.rule is not None:
            told["fill-rule"] = self.rule
        attributes = "".join(f' {name}="{value}"' for name, value in told.items())
        return f"<{self.name}{attributes}>{''.join(child.text() for child in self.inner)}</{self.name}>"


def step_place(word, row, place):
    x, y = place
    if word == "translate":
        return x + row[0], y + (row[1] if len(row) == 2 else 0)
    if word == "scale":
        return x * row[0], y * row[-1]
    a, b, c, d = row[:4] if word == "matrix" else TURNS[row[0] % 360]
    e, f = row[4:] if word == "matrix" else (0, 0)
    return a * x + c * y + e, b * x + d * y + f


def placed(steps, place):
    for word, row in reversed(steps):
        place = step_place(word, row, place)
    return place


def between(one, other, part):
    return tuple(u + (v - u) * part for u, v in zip(one, other))


def on_curve(corners, part):
    while len(corners) > 1:
        corners = [between(one, other, part) for one, other in zip(corners, corners[1:])]
    return corners[0]


def path_lines(d):
    lines, stands, begin, needs_begin = [], (0, 0), (0, 0), True
    for letter, numbers in d:
        big = letter.upper()
        if big == "Z":
            stands, needs_begin = begin, True
            continue
        length = ROW_LENGTHS[big]
        for k in range(0, len(numbers), length):
            row = numbers[k:k + length]
            x, y = stands if letter != big else (0, 0)
            if big == "H":
                told = [(x + row[0], stands[1])]
            elif big == "V":
                told = [(stands[0], y + row[0])]
            else:
                told = [(x + u, y + v) for u, v in zip(row[::2], row[1::2])]
            if big == "M" and k == 0:
                lines.append(told)
                begin, needs_begin = told[0], False
            else:
                if needs_begin:
                    lines.append([stands])
                    needs_begin = False
                parts = [Fraction(k, 16) for k in range(1, 17)] if len(told) > 1 else [1]
                lines[-1].extend(on_curve([stands] + told, part) for part in parts)
            stands = told[-1]
    return lines


def lines_of(element):
    own = element.own
    if element.name == "path":
        return path_lines(own["d"])
    if element.name == "rect":
        x, y = own.get("x", 0), own.get("y", 0)
        return [[(x, y), (x + own["width"], y), (x + own["width"], y + own["height"]), (x, y + own["height"])]]
    return [own["points"]]


def winding(lines, x, y):
    total = 0
    for line in lines:
        for (x0, y0), (x1, y1) in zip(line, line[1:] + line[:1]):
            if y0 <= y < y1 or y1 <= y < y0:
                if x0 + Fraction(y - y0) * (x1 - x0) / (y1 - y0) <= x:
                    total += 1 if y0 < y1 else -1
    return total


def in_circle(own, steps, x, y):
    e, f = placed(steps, (0, 0))
    a, b = (u - v for u, v in zip(placed(steps, (1, 0)), (e, f)))
    c, d = (u - v for u, v in zip(placed(steps, (0, 1)), (e, f)))
    if a * d == b * c or own["r"] == 0:
        return False
    u = Fraction(d * (x - e) - c * (y - f)) / (a * d - b * c) - own.get("cx", 0)
    v = Fraction(a * (y - f) - b * (x - e)) / (a * d - b * c) - own.get("cy", 0)
    return u * u + v * v <= own["r"] ** 2


class Shape:
    def __init__(self, element, steps, fill, rule):
        self.colour = None if fill == "none" else int(fill[1:], 16)
        self.rule = rule
        self.steps = steps
        self.circle = element.own if element.name == "circle" else None
        if self.circle is None:
            self.lines = [[placed(steps, place) for place in line] for line in lines_of(element)]

    def covers(self, x, y):
        if self.circle is not None:
            return in_circle(self.circle, self.steps, x + HALF, y + HALF)
        total = winding(self.lines, x + HALF, y + HALF)
        return total % 2 == 1 if self.rule == "evenodd" else total != 0


def shapes_in(element, steps=(), fill="#000000", rule="nonzero"):
    fill = element.fill or fill
    rule = element.rule or rule
    steps = list(steps) + element.steps
    if element.name not in ("svg", "g"):
        return [Shape(element, steps, fill, rule)]
    return [shape for child in element.inner for shape in shapes_in(child, steps, fill, rule)]


class Answers:
    """What the calls must answer of a picture."""

    def __init__(self, svg):
        self.width = svg.own["width"]
        self.height = svg.own["height"]
        self.shapes = shapes_in(svg)
        self.dots = [(x, y) for y in range(self.height) for x in range(self.width)]
        self.covered = [{dot for dot in self.dots if shape.covers(*dot)} for shape in self.shapes]

    def at(self, x, y):
        painting = [k for k, shape in enumerate(self.shapes) if shape.colour is not None and (x, y) in self.covered[k]]
        return painting[-1] if painting else -4

    def paint(self):
        last = [self.at(x, y) for x, y in self.dots]
        return [self.shapes[k].colour if k >= 0 else 0xFFFFFF for k in last]


class Chance:
    """Makes pictures: small ones, with shapes that mostly meet them."""

    def __init__(self, seed):
        self.random = random.Random(seed)

    def number(self, low=-6, high=18):
        return self.random.randint(low, high)

    def step(self):
        word = self.random.choice(("translate", "scale", "matrix", "rotate"))
        if word == "translate":
            return word, [self.number(-5, 8) for _ in range(self.number(1, 2))]
        if word == "scale":
            return word, [self.number(-2, 3) for _ in range(self.number(1, 2))]
        if word == "matrix":
            return word, [self.number(-2, 2) for _ in range(4)] + [self.number(-2, 12) for _ in range(2)]
        return word, [90 * self.number(-3, 3)]

    def path(self):
        letters = [self.random.choice("Mm")] + [self.random.choice("MLHVQCZmlhvqcz") for _ in range(self.number(0, 9))]
        d = []
        for letter in letters:
            low, high = (-6, 18) if letter.isupper() else (-9, 9)
            count = ROW_LENGTHS[letter.upper()] * self.number(1, 2)
            d.append((letter, [self.number(low, high) for _ in range(count)]))
        return {"d": d}

    def own(self, name):
        if name == "path":
            return self.path()
        if name == "circle":
            own = {"cx": self.number(), "cy": self.number(), "r": self.number(0, 9)}
            left_out = ("cx", "cy")
        elif name == "rect":
            own = {"x": self.number(), "y": self.number(), "width": self.number(0, 12), "height": self.number(0, 12)}
            left_out = ("x", "y")
        else:
            return {"points": [(self.number(), self.number()) for _ in range(self.number(0, 7))]}
        return {key: value for key, value in own.items() if key not in left_out or self.number(0, 3)}

    def style(self):
        fill = self.random.choice((None, None, "none", f"#{self.random.randrange(1 << 24):06x}"))
        return {"fill": fill, "rule": self.random.choice((None, "nonzero", "evenodd"))}

    def element(self, depth):
        steps = [self.step() for _ in range(max(0, self.number(-2, 2)))]
        if depth < 3 and self.number(0, 3) == 0:
            inner = [self.element(depth + 1) for _ in range(self.number(0, 3))]
            return Element("g", {}, steps, inner=inner, **self.style())
        name = self.random.choice(("rect", "circle", "polygon", "polyline", "path", "path"))
        return Element(name, self.own(name), steps, **self.style())

    def picture(self):
        sides = {"width": self.number(1, 14), "height": self.number(1, 14)}
        inner = [self.element(0) for _ in range(self.number(0, 5))]
        return Element("svg", sides, inner=inner, **self.style())
