"""Promise 2, shape by shape: which dots each kind of shape covers."""

import unittest

from pictures import DrawnTest, bytes_of, drawn, svg
from shapedots.circles import whole_root
from shapedots.drawing import paint


def d(value, more=""):
    return f'<path d="{value}"{more}/>'


def polygon(places):
    return f'<polygon points="{" ".join(f"{x} {y}" for x, y in places)}"/>'


BOX = '<rect x="2" y="1" width="7" height="5"/>'


class Rects(DrawnTest):
    def test_a_rect(self):
        self.drawn_as(
            BOX,
            "............",
            "..#######...",
            "..#######...",
            "..#######...",
            "..#######...",
            "..#######...",
            "............",
        )

    def test_places_left_out_are_0(self):
        self.drawn_as('<rect width="2" height="1"/>', "##..", "....")
        self.drawn_as('<rect x="1" width="2" height="1"/>', ".##.", "....")
        self.drawn_as('<rect y="1" width="2" height="1"/>', "....", "##..")

    def test_sides_of_0(self):
        self.empty('<rect width="0" height="5"/>', '<rect width="5" height="0"/>', '<rect width="0" height="0"/>')
        self.empty('<rect width="0" height="5" fill-rule="evenodd"/>')

    def test_partly_and_wholly_outside(self):
        self.drawn_as('<rect x="-3" y="-2" width="5" height="3"/>', "##..", "....")
        self.drawn_as('<rect x="3" y="1" width="500" height="500"/>', "....", "...#")
        self.drawn_as('<rect x="-500" y="-500" width="32767" height="32767"/>', "####", "####")
        for place in ('x="12"', 'x="-7"', 'y="8"', 'y="-5"', 'x="32767" y="32767"'):
            self.empty(f'<rect {place} width="7" height="5"/>')


class Circles(DrawnTest):
    def test_a_circle(self):
        self.drawn_as(
            '<circle cx="5" cy="4" r="3"/>',
            "............",
            "...####.....",
            "..######....",
            "..######....",
            "..######....",
            "..######....",
            "...####.....",
            "............",
        )

    def test_middle_left_out_is_0(self):
        self.drawn_as('<circle r="5"/>', "#####.", "#####.", "####..", "####..", "##....", "......")
        self.drawn_as('<circle cx="3" r="2"/>', ".####.", "..##..", "......")
        self.drawn_as('<circle cy="3" r="2"/>', "....", "#...", "##..", "##..", "#...", "....")

    def test_smallest(self):
        self.drawn_as('<circle cx="2" cy="1" r="1"/>', ".##.", ".##.", "....")
        self.empty('<circle cx="2" cy="1" r="0"/>')

    def test_largest(self):
        self.drawn_as('<circle r="32767"/>', "####", "####")
        self.drawn_as('<circle cx="-32765" r="32767"/>', "##..", "##..")
        self.drawn_as('<circle cx="32767" r="32765"/>', "..##", "..##")
        self.drawn_as('<circle cy="-32766" r="32767"/>', "####", "....")

    def test_wholly_outside(self):
        for place in ('cx="-4"', 'cx="16"', 'cy="-4"', 'cy="12"', 'cx="-3" cy="-3"', 'cx="15" cy="11"'):
            self.empty(f'<circle {place} r="4"/>')

    def test_the_rule_does_not_matter(self):
        circle = '<circle cx="5" cy="4" r="3"{}/>'
        self.alike(circle.format(""), circle.format(' fill-rule="evenodd"'))


class Roots(unittest.TestCase):
    def test_small_numbers(self):
        for number in range(2000):
            root = whole_root(number)
            self.assertTrue(root ** 2 <= number < (root + 1) ** 2, number)

    def test_just_below_and_at_a_square(self):
        for root in [10 ** k + j for k in range(2, 40) for j in (-1, 0, 1, 7)] + [2 ** k for k in range(1, 130)]:
            self.assertEqual([whole_root(root ** 2 + j) for j in (-1, 0, 1)], [root - 1, root, root])


class Points(DrawnTest):
    def test_polygon_and_polyline_are_closed(self):
        rows = ("#.....", "##....", "###...", "####..", "#####.", "......")
        for name in ("polygon", "polyline"):
            self.drawn_as(f'<{name} points="0 0 0 5 6 5 "/>', *rows)
            self.drawn_as(f'<{name} points="6,5, 0,0, 0,5"/>', *rows)
            self.drawn_as(f'<{name} points="0 5 0 0 6 5"/>', *rows)

    def test_few_places(self):
        for name in ("polygon", "polyline"):
            self.empty(f'<{name} points=""/>', f'<{name} points="5 5"/>', f'<{name} points="0 0 12 7"/>')
            self.empty(f'<{name} points="5 5" fill-rule="evenodd"/>', f'<{name} points="0 0 12 7 0 0"/>')

    def test_places_far_away(self):
        self.drawn_as('<polygon points="-32767 -32767 32767 -32767 32767 32767 -32767 32767"/>', "###", "###")
        self.drawn_as('<polygon points="-32767 -32767 32767 -32767 32767 32767"/>', "###", ".##", "..#")


class Letters(DrawnTest):
    def test_straight_letters(self):
        self.alike(
            BOX,
            d("M2 1L9 1L9 6L2 6Z"), d("M2 1L9 1 9 6 2 6"), d("M2 1H9V6H2"), d("M2 1H9V6H2Z"), d("M2 1 9 1 9 6 2 6"),
            d("M2 1V6H9V1z"), d("M2 1H5 9V3 6H7 2"), d("M2 1H20 9V-8 6H-3 2"),
        )

    def test_small_straight_letters(self):
        self.alike(
            BOX,
            d("m2 1l7 0l0 5l-7 0z"), d("m2 1l7 0 0 5-7 0"), d("m2 1h7v5h-7"), d("m2 1 7 0 0 5-7 0"),
            d("M2 1h3 4v2 3h-2-5"), d("M2 1h7V6h-7"), d("m2 1L9 1v5H2"), d("M2 1v5h7v-5z"),
        )

    def test_small_curves(self):
        self.alike(d("M1 1Q5 14 11 1"), d("m1 1q4 13 10 0"), d("M1 1q4 13 10 0z"))
        self.alike(d("M1 7C0-5 12-5 11 7"), d("m1 7c-1-12 11-12 10 0"))
        self.alike(d("M1 1Q5 14 6 3Q8 9 11 1"), d("M1 1Q5 14 6 3 8 9 11 1"), d("m1 1q4 13 5 2 2 6 5-2"))
        self.alike(d("M1 7C0-5 5-5 6 4C7-5 12-5 11 7"), d("M1 7c-1-12 4-12 5-3 1-9 6-9 5 3"))

    def test_a_curve_of_second_order(self):
        self.drawn_as(
            d("M1 1Q5 14 11 1"),
            "............",
            ".##########.",
            ".#########..",
            "..########..",
            "..#######...",
            "...#####....",
            "....####....",
            "............",
        )

    def test_curves_of_third_order(self):
        self.drawn_as(
            d("M1 7C0-5 12-5 11 7"),
            "..########..",
            "..########..",
            ".##########.",
            ".##########.",
            ".##########.",
            ".##########.",
            ".##########.",
            "............",
        )
        self.drawn_as(
            d("M1 7C20-6-8-6 11 7"),
            "....####....",
            ".....##.....",
            "............",
            ".....##.....",
            "....####....",
            "...######...",
            "..########..",
            "............",
        )

    def test_curves_are_sixteen_straight_lines(self):
        # So large that dots tell the straight lines from the curve.
        quadratic = [(32 * k, 8 * k * (16 - k)) for k in range(17)]
        self.assertEqual(drawn(d("M0 0Q256 1024 512 0"), 512, 512), drawn(polygon(quadratic), 512, 512))
        self.assertNotEqual(drawn(polygon(quadratic), 512, 512), drawn(polygon(quadratic[::2]), 512, 512))
        cubic = [(3 * k * k * (16 - k) + k ** 3, 48 * k * (16 - k)) for k in range(17)]
        self.assertEqual(drawn(d("M0 0C0 4096 4096 4096 4096 0"), 1024, 800), drawn(polygon(cubic), 1024, 800))
        self.assertNotEqual(drawn(polygon(cubic), 1024, 800), drawn(polygon(cubic[::2]), 1024, 800))

    def test_empty_and_single_places(self):
        self.empty(d(""), d(" "), d("M3 3"), d("M3 3Z"), d("m3 3zz"), d("M3 3 9 5"), d("M3 3H9Z"), d("M3 3M9 9M0 0"))


class Lines(DrawnTest):
    def test_several_lines(self):
        self.alike(
            '<rect x="1" y="1" width="3" height="3"/><rect x="6" y="2" width="4" height="5"/>',
            d("M1 1H4V4H1ZM6 2H10V7H6Z"), d("M1 1H4V4H1M6 2H10V7H6"), d("M1 1h3v3h-3zm5 1h4v5h-4z"),
            d("M1 1h3v3h-3m5-2h4v5h-4"), d("m1 1 3 0 0 3-3 0m5-2 4 0 0 5-4 0"), d("M1 1h3v3H1zM0 0M6 2h4v5H6"),
        )

    def test_m_stands_where_the_line_ended_and_behind_z_where_it_began(self):
        self.drawn_as(d("M1 0h3v1h-3m5 1h2v1h-2"), ".###....", "........", "......##", "........")
        self.drawn_as(d("M1 0h3v1h-3zm5 1h2v1h-2"), ".###....", "......##", "........", "........")

    def test_a_letter_behind_z_begins_where_the_last_line_began(self):
        box = '<rect x="4" y="3" width="4" height="3"/>'
        self.alike(box + '<rect x="1" y="1" width="3" height="2"/>', d("M4 3h4v3h-4zh-3v-2h3z"), d("M4 3H8V6H4ZH1V1H4"))
        self.alike(box + '<polygon points="4 3 1 1 4 0"/>', d("M4 3h4v3h-4zL1 1 4 0"), d("M4 3H8V6H4Zl-3-2 3-1z"))
        self.alike(box + d("M4 3Q0 9 0 0"), d("M4 3h4v3h-4zQ0 9 0 0"), d("M4 3h4v3h-4zq-4 6-4-3z"))
        self.alike(box + d("M4 3C0 9 0 5 0 0"), d("M4 3h4v3h-4zC0 9 0 5 0 0"), d("M4 3h4v3h-4zzc-4 6-4 2-4-3z"))
        self.alike(box + '<rect x="4" y="1" width="1" height="2"/>', d("M4 3h4v3h-4zV1h1v2"), d("M4 3h4v3h-4zv-2h1v2"))

    def test_an_inner_line_the_same_way_and_the_other_way(self):
        outer = "M1 0h6v5h-6z"
        full = (".######.", ".######.", ".######.", ".######.", ".######.")
        hole = (".######.", ".######.", ".##..##.", ".######.", ".######.")
        self.drawn_as(d(outer + "M3 2h2v1h-2z"), *full)
        self.drawn_as(d(outer + "M3 2v1h2v-1z"), *hole)
        self.drawn_as(d(outer + "M3 2h2v1h-2z", ' fill-rule="evenodd"'), *hole)
        self.drawn_as(d(outer + "M3 2v1h2v-1z", ' fill-rule="evenodd"'), *hole)

    def test_each_line_is_closed_by_itself(self):
        self.alike('<polygon points="0 0 0 4 4 4"/><polygon points="5 0 9 0 9 4"/>', d("M0 0V4H4M5 0H9V4"))


class LongPaths(unittest.TestCase):
    def test_as_long_as_a_text_may_be(self):
        for d_value in ("M0 0" + "h1v1h-1z" * 8000, "M0 0" + "q1 1 2 0" * 7000, "M1 1" + "z" * 60000):
            answer = paint(200, bytes_of(svg(d(d_value))))
            self.assertEqual(len(answer), 201)

    def test_the_same_line_very_often(self):
        there_and_back = "M5 0" + "V9V0" * 5000 + "V9H8V0"
        self.assertEqual(drawn(d(there_and_back), 10, 2), [".....###.."] * 2)
        self.assertEqual(drawn(d("M5 0" + "H8V9H5V0" * 3001), 10, 2), [".....###.."] * 2)
        self.assertEqual(drawn(d("M5 0" + "H8V9H5V0" * 3001, ' fill-rule="evenodd"'), 10, 2), [".....###.."] * 2)
        self.assertEqual(drawn(d("M5 0" + "H8V9H5V0" * 3000, ' fill-rule="evenodd"'), 10, 2), [".........."] * 2)


if __name__ == "__main__":
    unittest.main()
