"""Promise 3: which shape paints a dot last, which refusal comes first, and what at leaves alone."""

import unittest

from oracle import Answers, Chance
from pictures import MANY, MOST, WHITE, WRONG, bytes_of, of_length, svg
from shapedots.drawing import at, paint, size

NO_SHAPE = [-4]
OUTSIDE = [-5]

# Over a picture of 20 times 10: where they lie one over another is told by the tests.
LOW = '<rect x="1" y="1" width="8" height="4"/>'
UNSEEN = '<rect width="20" height="10" fill="none"/>'
HIGH = '<rect x="5" y="3" width="10" height="6" fill="#ff0000"/>'
DISK = '<circle cx="15" cy="5" r="3" fill="#ffffff"/>'
SEVERAL = svg(LOW + UNSEEN + HIGH + DISK)


class Shapes(unittest.TestCase):
    def at(self, x, y, text, expected):
        with self.subTest(x=x, y=y, text=text[:200]):
            self.assertEqual(at(x, y, bytes_of(text)), expected)

    def test_no_shape(self):
        self.at(0, 0, SEVERAL, NO_SHAPE)
        self.at(4, 7, SEVERAL, NO_SHAPE)
        self.at(0, 0, svg(), NO_SHAPE)
        self.at(0, 0, '<svg width="1" height="1"/>', NO_SHAPE)

    def test_one_shape(self):
        self.at(1, 1, SEVERAL, [0])
        self.at(4, 4, SEVERAL, [0])
        self.at(9, 8, SEVERAL, [2])
        self.at(17, 5, SEVERAL, [3])

    def test_several_shapes(self):
        self.at(5, 3, SEVERAL, [2])
        self.at(8, 4, SEVERAL, [2])
        self.at(14, 5, SEVERAL, [3])

    def test_just_at_the_sides_of_a_shape(self):
        for x, y, expected in ((4, 3, [0]), (5, 2, [0]), (8, 2, [0]), (9, 2, NO_SHAPE), (9, 3, [2]), (8, 5, [2])):
            self.at(x, y, SEVERAL, expected)
        for x, y, expected in ((0, 1, NO_SHAPE), (1, 0, NO_SHAPE), (1, 5, NO_SHAPE), (14, 8, [2]), (15, 8, NO_SHAPE)):
            self.at(x, y, SEVERAL, expected)

    def test_none_paints_nothing_but_counts(self):
        self.at(0, 0, svg(UNSEEN * 3), NO_SHAPE)
        self.at(1, 1, svg(UNSEEN * 3 + LOW + UNSEEN), [3])
        self.at(1, 1, svg(f'<g fill="none">{LOW}{HIGH}</g>{LOW}'), [2])
        self.at(1, 1, svg(LOW + LOW + LOW, ' fill="none"'), NO_SHAPE)
        self.at(6, 3, svg(LOW + HIGH + LOW, ' fill="none"'), [1])

    def test_shapes_that_cover_nothing_count(self):
        self.at(1, 1, svg('<path d=""/><circle r="0"/><rect width="0" height="0"/>' + LOW), [3])

    def test_groups_do_not_count(self):
        self.at(1, 1, svg(f"<g></g><g><g/></g><g><g>{LOW}</g></g>"), [0])
        self.at(1, 1, svg(f"<g><g>{LOW}</g>{LOW}</g>{LOW}"), [2])

    def test_the_same_colour_or_white(self):
        self.at(1, 1, svg(LOW * 4), [3])
        self.at(1, 1, svg(LOW * 2 + '<rect width="5" height="5" fill="#FFFFFF"/>'), [2])

    def test_moved_shapes(self):
        self.at(0, 3, svg('<rect width="4" height="1" transform="translate(1) rotate(90)"/>'), [0])
        self.at(1, 3, svg('<rect width="4" height="1" transform="translate(1) rotate(90)"/>'), NO_SHAPE)
        self.at(3, 3, svg('<circle cx="3" cy="3" r="9" transform="scale(0)"/>'), NO_SHAPE)
        self.at(3, 3, svg('<g transform="scale(0 1)"><rect width="9" height="9"/></g>'), NO_SHAPE)

    def test_rules(self):
        ring = '<path d="M0 0h5v5h-5zM2 2h1v1h-1z"{}/>'
        self.at(2, 2, svg(ring.format("")), [0])
        self.at(2, 2, svg(ring.format(' fill-rule="evenodd"')), NO_SHAPE)
        self.at(3, 2, svg(ring.format(' fill-rule="evenodd"')), [0])
        self.at(2, 2, svg(LOW + ring.format(' fill-rule="evenodd"')), [0])

    def test_many_shapes(self):
        self.at(0, 0, svg('<path d="M0 0h1v1H0"/>' + '<path d=""/>' * 5000), [0])
        self.at(0, 0, svg('<path d=""/>' * 5000 + '<path d="M0 0h1v1H0"/>'), [5000])

    def test_answer_is_a_list_of_one_whole_number(self):
        for x in (0, 1, 99):
            answer = at(x, 1, bytes_of(SEVERAL))
            self.assertIs(type(answer), list)
            self.assertEqual([type(number) for number in answer], [int])


class Sides(unittest.TestCase):
    def test_corners(self):
        text = bytes_of(svg('<rect width="20" height="10"/>'))
        for x, y in ((0, 0), (19, 0), (0, 9), (19, 9)):
            self.assertEqual(at(x, y, text), [0])
            self.assertEqual(at(x, y, bytes_of(svg())), NO_SHAPE)

    def test_each_corner_by_itself(self):
        corners = ((0, 0), (19, 0), (0, 9), (19, 9))
        text = bytes_of(svg("".join(f'<rect x="{x}" y="{y}" width="1" height="1"/>' for x, y in corners)))
        for k, corner in enumerate(corners):
            self.assertEqual(at(*corner, text), [k])

    def test_just_outside(self):
        for inside in ("", '<rect x="-9" y="-9" width="99" height="99"/>'):
            text = bytes_of(svg(inside))
            for x in range(-1, 21):
                self.assertEqual(at(x, -1, text), OUTSIDE)
                self.assertEqual(at(x, 10, text), OUTSIDE)
            for y in range(-1, 11):
                self.assertEqual(at(-1, y, text), OUTSIDE)
                self.assertEqual(at(20, y, text), OUTSIDE)

    def test_width_and_height_are_not_mixed(self):
        text = bytes_of(svg('<rect width="99" height="99"/>', "", 2, 7))
        self.assertEqual(at(1, 6, text), [0])
        self.assertEqual(at(6, 1, text), OUTSIDE)

    def test_far_outside(self):
        far = (-2147483648, -1000, 1024, 2147483647)
        for text in (bytes_of(SEVERAL), bytes_of(svg('<rect x="-9" y="-9" width="32767" height="32767"/>'))):
            for number in far:
                self.assertEqual(at(number, 5, text), OUTSIDE)
                self.assertEqual(at(5, number, text), OUTSIDE)
                self.assertEqual(at(number, number, text), OUTSIDE)


class Refusals(unittest.TestCase):
    def test_a_text_too_long(self):
        self.assertEqual(at(0, 0, bytes_of(of_length(65536))), [0])
        self.assertEqual(at(0, 0, bytes_of(of_length(65537))), [-1])
        self.assertEqual(at(0, 0, bytes_of(of_length(65600))), [-1])

    def test_a_text_that_is_not_right(self):
        for text in ("", "x", svg("<a/>"), svg(LOW + '<rect width="1"/>'), SEVERAL + LOW, svg('<path d="L1 1"/>')):
            self.assertEqual(at(1, 1, bytes_of(text)), WRONG)

    def test_which_comes_first(self):
        self.assertEqual(at(0, 0, [0] * 65537), [-1])
        self.assertEqual(at(-1, -1, [0] * 65537), [-1])
        self.assertEqual(at(-1, 0, bytes_of(of_length(65537))), [-1])
        self.assertEqual(at(19, 9, bytes_of(of_length(65537))), [-1])
        self.assertEqual(at(-1, 0, bytes_of("x")), WRONG)
        self.assertEqual(at(99, 99, bytes_of(svg("<a/>"))), WRONG)
        self.assertEqual(at(0, 0, bytes_of(svg("<a/>"))), WRONG)
        self.assertEqual(at(20, 0, bytes_of(svg())), OUTSIDE)


class LeftAlone(unittest.TestCase):
    def test_what_is_handed_in_stays(self):
        for text in (MANY, SEVERAL, svg("<a/>"), of_length(65537), ""):
            for x in (0, 5, -1):
                handed = bytes_of(text)
                at(x, 3, handed)
                self.assertEqual(handed, bytes_of(text))

    def test_nothing_is_kept(self):
        for text in (svg(LOW), svg("<g>"), of_length(65537), MANY):
            again = at(5, 3, bytes_of(text))
            self.assertEqual(at(5, 3, bytes_of(SEVERAL)), [2])
            self.assertEqual(at(5, 3, bytes_of(text)), again)

    def test_answers_are_not_shared(self):
        for x, text in ((5, SEVERAL), (0, SEVERAL), (-1, SEVERAL), (5, ""), (5, of_length(65537))):
            answer = at(x, 3, bytes_of(text))
            kept = list(answer)
            answer.append(5)
            self.assertEqual(at(x, 3, bytes_of(text)), kept)

    def test_the_other_calls_answer_as_before(self):
        before = size(bytes_of(SEVERAL)), paint(MOST, bytes_of(SEVERAL))
        at(5, 3, bytes_of(SEVERAL))
        self.assertEqual((size(bytes_of(SEVERAL)), paint(MOST, bytes_of(SEVERAL))), before)
        self.assertEqual(before[0], [0, 20, 10, 4])


class WithPaint(unittest.TestCase):
    def agree(self, text, fills):
        width, height = size(text)[1:3]
        dots = paint(MOST, text)[1:]
        for y in range(height):
            for x in range(width):
                answer = at(x, y, text)
                colour = WHITE if answer == NO_SHAPE else fills[answer[0]]
                self.assertEqual(dots[y * width + x], colour, (x, y))

    def test_every_dot_of_a_picture(self):
        self.agree(bytes_of(SEVERAL), [0, None, 0xFF0000, WHITE])

    def test_every_dot_under_a_matrix(self):
        inside = f'<g transform="matrix(1 1 -1 2 5 -4)">{LOW}{UNSEEN}<g fill="#123456">{LOW}{DISK}</g></g>'
        self.agree(bytes_of(svg(inside)), [0, None, 0x123456, WHITE])

    def test_every_dot_of_curves(self):
        inside = '<path d="M1 1Q5 14 11 1"/><path fill="#000001" d="M1 7C20-6-8-6 11 7" fill-rule="evenodd"/>'
        self.agree(bytes_of(svg(inside)), [0, 1])

    def test_pictures_by_chance(self):
        found = 0
        for seed in range(1000, 1080):
            picture = Chance(seed).picture()
            text = bytes_of(picture.text())
            answers = Answers(picture)
            with self.subTest(seed=seed, text=picture.text()):
                expected = [answers.at(x, y) for x, y in answers.dots]
                found += max(expected) >= 0
                self.assertEqual([at(x, y, text) for x, y in answers.dots], [[number] for number in expected])
                self.agree(text, [shape.colour for shape in answers.shapes])
        self.assertGreater(found, 20)


if __name__ == "__main__":
    unittest.main()
