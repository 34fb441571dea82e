"""Promise 2, what is covered and which colour it gets: rules, edges, fills, shapes one over another."""

import unittest

from pictures import MOST, WHITE, DrawnTest, bytes_of, drawn, svg
from shapedots.drawing import paint

STAR = '<polygon points="6 0 10 7 0 3 12 3 2 7"{}/>'
RED = 0xFF0000
BLUE = 0x0000FF


def box(more="", x=0, width=1):
    return f'<rect x="{x}" width="{width}" height="1"{more}/>'


def colours(inside, more="", width=4):
    return paint(MOST, bytes_of(svg(inside, more, width, 1)))[1:]


class Rules(DrawnTest):
    def test_nonzero(self):
        rows = (
            "............",
            ".....##.....",
            ".....##.....",
            ".##########.",
            "...######...",
            "...######...",
            "..#......#..",
            "............",
        )
        self.drawn_as(STAR.format(""), *rows)
        self.drawn_as(STAR.format(' fill-rule="nonzero"'), *rows)

    def test_evenodd(self):
        self.drawn_as(
            STAR.format(' fill-rule="evenodd"'),
            "............",
            ".....##.....",
            ".....##.....",
            ".###....###.",
            "...#....#...",
            "...######...",
            "..#......#..",
            "............",
        )

    def test_lines_upon_lines(self):
        once, back = "M1 0h3v1h-3z", "M1 0v1h3v-1z"
        shown = {True: [".###.."], False: ["......"]}
        for along in range(4):
            for against in range(4):
                d = once * along + back * against
                for rule, inside in (("nonzero", along != against), ("evenodd", (along + against) % 2 == 1)):
                    found = drawn(f'<path d="{d}" fill-rule="{rule}"/>', 6, 1)
                    self.assertEqual(found, shown[inside], (along, against, rule))

    def test_sums_below_0(self):
        self.drawn_as('<path d="M0 0v1h4v-1zM1 0v1h2v-1z"/>', "####.")
        self.drawn_as('<path d="M0 0v1h4v-1zM1 0v1h2v-1z" fill-rule="evenodd"/>', "#..#.")

    def test_rules_are_handed_down(self):
        nonzero, evenodd = drawn(STAR.format("")), drawn(STAR.format(' fill-rule="evenodd"'))
        self.assertEqual(drawn(STAR.format(""), more=' fill-rule="evenodd"'), evenodd)
        self.assertEqual(drawn(f'<g fill-rule="evenodd"><g>{STAR.format("")}</g></g>'), evenodd)
        self.assertEqual(drawn(f'<g fill-rule="evenodd"><g fill-rule="nonzero">{STAR.format("")}</g></g>'), nonzero)
        self.assertEqual(drawn(f'<g fill-rule="nonzero">{STAR.format("")}</g>', more=' fill-rule="evenodd"'), nonzero)
        inner = STAR.format(' fill-rule="evenodd"')
        self.assertEqual(drawn(f'<g fill-rule="nonzero">{inner}</g>'), evenodd)

    def test_a_group_that_ended_hands_nothing_down(self):
        nonzero = drawn(STAR.format(""))
        self.assertEqual(drawn(f'<g fill-rule="evenodd"></g><g fill-rule="evenodd"/>{STAR.format("")}'), nonzero)
        self.assertEqual(drawn(f'<path d="" fill-rule="evenodd"></path>{STAR.format("")}'), nonzero)


class Edges(DrawnTest):
    def test_a_middle_on_a_line_is_right_of_it(self):
        self.drawn_as('<polygon points="0 0 4 4 4 0"/>', "####.", ".###.", "..##.", "...#.")
        self.drawn_as('<polygon points="0 0 4 4 0 4"/>', ".....", "#....", "##...", "###..")
        self.drawn_as('<polygon points="4 0 0 4 4 4"/>', "...#.", "..##.", ".###.", "####.")
        self.drawn_as('<polygon points="4 0 0 4 0 0"/>', "###..", "##...", "#....", ".....")

    def test_either_way_round(self):
        self.drawn_as('<polygon points="4 0 4 4 0 0"/>', "####.", ".###.", "..##.", "...#.")
        self.drawn_as('<polygon points="0 4 4 4 0 0"/>', ".....", "#....", "##...", "###..")

    def test_shapes_side_by_side_share_no_dot_and_leave_none(self):
        halves = ('<polygon points="0 0 7 5 0 5"/>', '<polygon points="0 0 7 5 7 0"/>')
        first, second = ("".join(drawn(half, 7, 5)) for half in halves)
        self.assertTrue(all((one == "#") != (other == "#") for one, other in zip(first, second)))
        halves = ('<polygon points="0 0 5 5 0 5"/>', '<polygon points="0 0 5 5 5 0"/>')
        first, second = ("".join(drawn(half, 5, 5)) for half in halves)
        self.assertTrue(all((one == "#") != (other == "#") for one, other in zip(first, second)))

    def test_just_left_and_right_of_a_middle(self):
        # At y = 1/2 the line is at 1/2 and as little as 1 / 2000 off it.
        self.drawn_as('<polygon points="0 0 1000 1000 2000 0"/>', "##")
        self.drawn_as('<polygon points="0 0 999 1000 2000 0"/>', "##")
        self.drawn_as('<polygon points="0 0 1001 1000 2000 0"/>', ".#")

    def test_a_place_at_the_middle_of_a_row(self):
        # This curve stands at 2, 1/2 when it is half done; one of the two lines that meet there counts, not both.
        self.drawn_as('<path d="M2 0Q2 0 2 2H6V0Z" fill-rule="evenodd"/>', "..####..", "..####..", "........")
        self.drawn_as('<path d="M6 0Q6 0 6 2H2V0Z" fill-rule="evenodd"/>', "..####..", "..####..", "........")
        self.drawn_as('<path d="M2 2Q2 2 2 0H6V2Z" fill-rule="evenodd"/>', "..####..", "..####..", "........")

    def test_tips_at_the_middle_of_a_row(self):
        self.empty('<path d="M0 0Q4 1 8 0Z"/>', '<path d="M0 0Q4 1 8 0Z" fill-rule="evenodd"/>')
        self.empty('<path d="M0 1Q4 0 8 1Z"/>', '<path d="M0 1Q4 0 8 1Z" fill-rule="evenodd"/>')

    def test_a_level_line_at_the_middle_of_a_row(self):
        # From 4 / 16 to 5 / 16 these curves go level, at 5 + 1/2 and at 14 + 1/2, from x = 16 to x = 20.
        below = drawn('<path d="M0 8Q32-1 64 22H0Z"/>', 64, 16)
        self.assertEqual(below[4], "." * 64)
        self.assertEqual(below[5], "." * 16 + "####" + "." * 44)
        above = drawn('<path d="M0 12Q32 21 64-2H0Z"/>', 64, 16)
        self.assertEqual(above[13], "." * 7 + "#" * 22 + "." * 35)
        self.assertEqual(above[14], "." * 64)

    def test_sides_of_the_picture(self):
        self.drawn_as('<rect width="4" height="2"/>', "####", "####")
        self.drawn_as('<rect x="-1" y="-1" width="6" height="4"/>', "####", "####")
        self.drawn_as('<path d="M-9-9H1V9H-9ZM3-9H9V9H3Z"/>', "#..#", "#..#")
        self.drawn_as('<path d="M-9-9H-1V9H-9ZM5-9H9V9H5Z"/>', "....", "....")

    def test_lines_beyond_the_left_side_count(self):
        self.drawn_as('<path d="M-9 0H2V1H-9ZM-5 0V1H-1V0Z" fill-rule="evenodd"/>', "##..")
        self.drawn_as('<path d="M-9 0H2V1H-9ZM-5 0V1H3V0Z" fill-rule="evenodd"/>', "..#.")
        self.drawn_as('<polygon points="-100 -100 -100 100 100 0"/>', "####", "####")


class Fills(unittest.TestCase):
    def test_black_where_none_is_told(self):
        self.assertEqual(colours(box()), [0] + [WHITE] * 3)

    def test_red_green_and_blue(self):
        for fill, colour in (
            ("#FF0000", RED), ("#00ff00", 0x00FF00), ("#0000Ff", BLUE), ("#123456", 0x123456), ("#789abc", 0x789ABC),
            ("#DEFdef", 0xDEFDEF), ("#000001", 1), ("#010000", 65536), ("#000100", 256), ("#ffffff", WHITE),
        ):
            self.assertEqual(colours(box(f' fill="{fill}"'))[0], colour)

    def test_none(self):
        self.assertEqual(colours(box(' fill="none"')), [WHITE] * 4)
        self.assertEqual(colours(box(' fill="#ff0000"') + box(' fill="none"'))[0], RED)

    def test_fills_are_handed_down(self):
        red, blue, none = ' fill="#ff0000"', ' fill="#0000ff"', ' fill="none"'
        self.assertEqual(colours(box(), red)[0], RED)
        self.assertEqual(colours(f"<g{red}>{box()}</g>", blue)[0], RED)
        self.assertEqual(colours(f"<g{red}><g>{box()}</g></g>", blue)[0], RED)
        self.assertEqual(colours(f"<g{red}><g{blue}>{box()}</g></g>")[0], BLUE)
        self.assertEqual(colours(f"<g{red}>{box(blue)}</g>")[0], BLUE)
        self.assertEqual(colours(f"<g{none}>{box()}</g>", blue)[0], WHITE)
        self.assertEqual(colours(box(), none)[0], WHITE)
        self.assertEqual(colours(f"<g{none}>{box(red)}</g>", none)[0], RED)
        self.assertEqual(colours(f'<g{none}><g fill="#000000">{box()}</g></g>')[0], 0)

    def test_a_group_that_ended_hands_nothing_down(self):
        red = ' fill="#ff0000"'
        self.assertEqual(colours(f"<g{red}></g><g{red}/>{box()}")[0], 0)
        self.assertEqual(colours(f"<g{red}>{box()}</g>{box(x=1)}")[:2], [RED, 0])
        self.assertEqual(colours(f"<path d=''{red}></path>{box()}")[0], 0)

    def test_rule_and_fill_are_handed_down_each_by_itself(self):
        twice = '<path d="M0 0h3v1h-3zM1 0h1v1h-1z"/>'
        inside = f'<g fill="#ff0000"><g fill-rule="evenodd">{twice}</g></g>'
        self.assertEqual(colours(inside), [RED, WHITE, RED, WHITE])
        inside = f'<g fill-rule="evenodd"><g fill="#ff0000">{twice}</g></g>'
        self.assertEqual(colours(inside), [RED, WHITE, RED, WHITE])


class Over(unittest.TestCase):
    def test_the_last_is_on_top(self):
        one, other = box(' fill="#ff0000"', 0, 3), box(' fill="#0000ff"', 2, 2)
        self.assertEqual(colours(one + other), [RED, RED, BLUE, BLUE])
        self.assertEqual(colours(other + one), [RED, RED, RED, BLUE])

    def test_many_one_over_another(self):
        fills = ["000001", "000002", "none", "000003", "000004", "none"]
        shapes = [
            box(f' fill="{fill if fill == "none" else "#" + fill}"', x, width)
            for fill, x, width in zip(fills, (0, 0, 0, 3, 5, 0), (8, 2, 8, 3, 1, 8))
        ]
        self.assertEqual(colours("".join(shapes), "", 9), [2, 2, 1, 3, 3, 4, 1, 1, WHITE])
        self.assertEqual(colours("".join(reversed(shapes)), "", 9), [1] * 8 + [WHITE])

    def test_groups_do_not_change_the_order(self):
        one, other = box(' fill="#ff0000"', 0, 3), box(' fill="#0000ff"', 2, 2)
        self.assertEqual(colours(f"<g><g>{one}</g></g>{other}"), [RED, RED, BLUE, BLUE])
        self.assertEqual(colours(f"{one}<g><g>{other}</g></g>"), [RED, RED, BLUE, BLUE])
        self.assertEqual(colours(f"<g>{other}<g>{one}</g></g>"), [RED, RED, RED, BLUE])

    def test_white_over_black(self):
        self.assertEqual(colours(box("", 0, 4) + box(' fill="#ffffff"', 1, 2)), [0, WHITE, WHITE, 0])
        self.assertEqual(colours(box(' fill="#ffffff"', 1, 2) + box("", 0, 4)), [0] * 4)

    def test_a_hole_shows_what_is_below(self):
        ring = '<path fill="#0000ff" d="M0 0h4v1h-4zM1 0v1h2v-1z"/>'
        self.assertEqual(colours(box(' fill="#ff0000"', 2, 2) + ring), [BLUE, WHITE, RED, BLUE])

    def test_rows_do_not_run_into_one_another(self):
        sides = '<rect x="2" width="9" height="9"/><rect x="-5" width="6" height="9" fill="#ff0000"/>'
        dots = paint(9, bytes_of(svg(sides, "", 3, 3)))
        self.assertEqual(dots, [9] + [RED, WHITE, 0] * 3)


if __name__ == "__main__":
    unittest.main()
