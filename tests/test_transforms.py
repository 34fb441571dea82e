"""Transforms, and the bounds of every matrix."""

import unittest

from pictures import SizeTest, moved, svg
from shapedots.matrices import put_behind

CIRCLE = '<circle r="1"/>'

# With 1 put in, 1048577 comes to stand at one place of the matrix, a to d in turn; with 0, 1048576.
JUST_BEYOND = (
    "matrix(1024 0 {} 0 0 0) matrix(1024 1 0 0 0 0)",
    "matrix(0 1024 0 {} 0 0) matrix(1024 1 0 0 0 0)",
    "matrix(1024 0 {} 0 0 0) matrix(0 0 1024 1 0 0)",
    "matrix(0 1024 0 {} 0 0) matrix(0 0 1024 1 0 0)",
)


def place_by(matrix, x, y):
    a, b, c, d, e, f = matrix
    return a * x + c * y + e, b * x + d * y + f


class Product(unittest.TestCase):
    def test_places_by_a_product(self):
        outer = (2, -3, 5, 7, 11, -13)
        inner = (17, 19, -23, 29, 31, 37)
        for x, y in ((0, 0), (1, 0), (0, 1), (4, -9)):
            self.assertEqual(place_by(put_behind(outer, inner), x, y), place_by(outer, *place_by(inner, x, y)))


class Form(SizeTest):
    def test_none(self):
        for transform in ("", " ", " \t\n\r"):
            self.right(moved(transform), 1)
            self.right(moved(transform, CIRCLE), 1)

    def test_one_of_each(self):
        for transform in (
            "translate(1)", "translate(1 2)", "scale(3)", "scale(3,-4)", "matrix(1 2 3 4 5 6)", "rotate(90)",
            "translate( 1 )", "translate(\t1\n,\r2 )", "scale(0)", "scale(-1+2)", "matrix(1-2,3 4,-5+6)", "rotate( 90 )",
        ):
            self.right(moved(transform), 1)
            self.right(moved(transform, CIRCLE), 1)

    def test_blanks_before_between_and_behind(self):
        for blanks in ("", " ", "\t\n\r "):
            self.right(moved(f"{blanks}scale(2){blanks}rotate(90){blanks}translate(1){blanks}"), 1)

    def test_wrong_between(self):
        for other in (",", " , ", ";", "x", "1", "()", "(", ")"):
            self.wrong(moved(f"scale(2){other}rotate(90)"))
            self.wrong(moved(f"{other}scale(2)"))
            self.wrong(moved(f"scale(2){other}"))

    def test_other_words(self):
        for word in ("skewX", "skewx", "Translate", "SCALE", "", "translat", "translates", "turn", "translatescale"):
            self.wrong(moved(f"{word}(1)"))

    def test_how_many_numbers(self):
        counts = {"translate": (1, 2), "scale": (1, 2), "matrix": (6,), "rotate": (1,)}
        for word, right in counts.items():
            for count in range(9):
                transform = moved(f"{word}({' '.join(['0'] * count)})")
                if count in right:
                    self.right(transform, 1)
                else:
                    self.wrong(transform)

    def test_wrong_rows(self):
        for row in ("()", "( )", "(1", "1)", "(1,)", "(,1)", "(1,,2)", "(1))", "((1)", "(x)", "(32768)", "(000001)", ""):
            self.wrong(moved(f"translate{row}"))
            self.wrong(moved(f"scale{row}"))

    def test_nothing_before_the_row(self):
        self.wrong(moved("translate (1)"))
        self.wrong(moved("trans late(1)"))

    def test_largest_numbers(self):
        self.right(moved("translate(32767 -32767)"), 1)
        self.right(moved("scale(32767 -32767)"), 1)
        self.right(moved("matrix(32767 -32767 32767 -32767 32767 -32767)"), 1)
        self.wrong(moved("matrix(1 0 0 1 0 32768)"))


class Angles(SizeTest):
    def test_angles_that_are_told(self):
        for angle in (-270, -180, -90, 0, 90, 180, 270):
            self.right(moved(f"rotate({angle})"), 1)
        for angle in ("+90", "00090", "-0", "-090"):
            self.right(moved(f"rotate({angle})"), 1)

    def test_other_angles(self):
        for angle in (1, -1, 45, 30, 60, 89, 91, 120, 135, 269, 271, 360, -360, 450, -450, 900, -45, 32760):
            self.wrong(moved(f"rotate({angle})"))

    def test_which_way_each_turns(self):
        # 1, 0 goes here; only a shift that way leaves the bounds when another 1 is added.
        ways = {-270: (0, 1), -180: (-1, 0), -90: (0, -1), 0: (1, 0), 90: (0, 1), 180: (-1, 0), 270: (0, -1)}
        for angle, way in ways.items():
            for shift in ((1, 0), (-1, 0), (0, 1), (0, -1)):
                text = moved(f"translate({shift[0]} {shift[1]}) scale(4096) rotate({angle}) translate(4096 0)")
                if shift == way:
                    self.wrong(text)
                else:
                    self.right(text, 1)

    def test_which_way_the_other_side_turns(self):
        ways = {-270: (-1, 0), -180: (0, -1), -90: (1, 0), 0: (0, 1), 90: (-1, 0), 180: (0, -1), 270: (1, 0)}
        for angle, way in ways.items():
            for shift in ((1, 0), (-1, 0), (0, 1), (0, -1)):
                text = moved(f"translate({shift[0]} {shift[1]}) scale(4096) rotate({angle}) translate(0 4096)")
                if shift == way:
                    self.wrong(text)
                else:
                    self.right(text, 1)


class Bounds(SizeTest):
    def test_factors_at_the_bound(self):
        self.right(moved("scale(1024) scale(1024)"), 1)
        self.right(moved("scale(1024) scale(-1024)"), 1)
        for transform in JUST_BEYOND:
            self.right(moved(transform.format(0)), 1)
            self.right(moved("scale(-1) " + transform.format(0)), 1)
            self.right(moved(transform.format(-1)), 1)

    def test_factors_beyond(self):
        for transform in JUST_BEYOND:
            self.wrong(moved(transform.format(1)))
            self.wrong(moved(transform.format(1), CIRCLE))
            self.wrong(moved("scale(-1) " + transform.format(1)))
        self.wrong(moved("scale(1024 1) scale(1025 1)"))
        self.wrong(moved("scale(1 1024) scale(1 1025)"))

    def test_shifts_at_the_bound(self):
        for sign in ("", "-"):
            self.right(moved(f"scale(4096) translate({sign}4096)"), 1)
            self.right(moved(f"scale(4096) translate(0 {sign}4096)"), 1)
            self.right(moved(f"scale(4096) translate({sign}4096 {sign}4096)"), 1)

    def test_shifts_beyond(self):
        for sign in ("", "-"):
            self.wrong(moved(f"translate({sign}1) scale(4096) translate({sign}4096)"))
            self.wrong(moved(f"translate(0 {sign}1) scale(4096) translate(0 {sign}4096)"))
            self.wrong(moved(f"translate(0 {sign}1) scale(4096) translate(0 {sign}4096)", CIRCLE))

    def test_shifts_crosswise(self):
        self.right(moved("matrix(0 4096 4096 0 0 0) translate(4096 4096)"), 1)
        self.wrong(moved("matrix(0 4096 4096 0 0 1) translate(4096 4096)"))
        self.wrong(moved("matrix(0 4096 4096 0 1 0) translate(4096 4096)"))
        self.right(moved("matrix(0 4096 4096 0 0 1) translate(4095 4096)"), 1)
        self.right(moved("matrix(0 4096 4096 0 1 0) translate(4096 4095)"), 1)

    def test_factors_do_not_have_the_bound_of_shifts(self):
        self.right(moved("scale(1000) translate(16000)"), 1)
        self.wrong(moved("scale(1000) scale(16000)"))

    def test_the_last_is_done_first(self):
        self.right(moved("translate(4097) scale(4096)"), 1)
        self.wrong(moved("scale(4096) translate(4097)"))

    def test_one_number_for_scale_and_translate(self):
        self.wrong(moved("scale(1024) scale(1 1025)"))
        self.wrong(moved("scale(1024) scale(1025 1)"))
        self.right(moved("scale(1024 1) scale(1 1025)"), 1)
        self.right(moved("scale(1 4096) translate(4097)"), 1)
        self.wrong(moved("scale(4096 1) translate(4097)"))
        for sign in ("", "-"):
            self.right(moved(f"scale(1 4096) translate(0 {sign}4096) translate(5)"), 1)
            self.right(moved(f"scale(1 4096) translate(0 {sign}4096) translate(-5)"), 1)

    def test_a_matrix_on_the_way(self):
        self.wrong(moved("scale(1024) scale(1025) scale(0)"))
        self.wrong(moved("scale(4096) translate(4097) translate(-4097)"))
        self.wrong(moved("scale(1024) scale(1025) scale(0)", CIRCLE))
        self.right(moved("scale(1024) scale(0) scale(1025)"), 1)

    def test_the_way_is_from_the_outside_in(self):
        self.right(moved("scale(0) scale(32767) scale(32767)"), 1)
        self.wrong(moved("scale(32767) scale(32767) scale(0)"))
        self.right(moved("scale(0)", '<circle r="1" transform="scale(32767) scale(32767)"/>'), 1)
        self.wrong(moved("scale(32767)", '<circle r="1" transform="scale(32767) scale(0)"/>'))
        self.right(moved("scale(32767)", '<circle r="1" transform="scale(0) scale(32767)"/>'), 1)

    def test_groups_around_count(self):
        inner = '<g transform="scale(1024)">{}</g>'
        self.right(moved("scale(1024)", inner.format("")), 0)
        self.right(moved("scale(1024)", inner.format(CIRCLE)), 1)
        self.wrong(moved("scale(1024)", inner.format('<circle r="1" transform="scale(2)"/>')))
        self.wrong(moved("scale(1025)", inner.format("")))
        deep = inner.format('<g><g transform="scale(2)"/></g>')
        self.wrong(moved("scale(1024)", f"<g>{deep}</g>"))

    def test_groups_that_ended_do_not_count(self):
        group = '<g transform="scale(1024)">{}</g>'
        self.right(svg(group.format(CIRCLE) + group.format(CIRCLE) + group.format(group.format(CIRCLE) * 2)), 4)
        self.right(svg('<circle r="1" transform="scale(1025)"/>' * 3), 3)
        self.right(svg('<circle r="1" transform="scale(1025)"></circle>' * 3), 3)
        self.right(svg('<g transform="scale(1025)"/>' * 3), 0)

    def test_without_fill_too(self):
        self.wrong(svg('<circle r="0" fill="none" transform="scale(1024) scale(1025)"/>'))

    def test_many_steps(self):
        self.right(moved("scale(-1)" * 7000), 1)
        self.right(moved("rotate(90)" * 6000), 1)
        self.right(moved("translate(4194)" * 4000), 1)
        self.wrong(moved("translate(4195)" * 4000))


if __name__ == "__main__":
    unittest.main()
