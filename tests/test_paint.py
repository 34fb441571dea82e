"""Promise 2 as a whole: what paint answers, which refusal comes first, and what it leaves alone."""

import unittest

from oracle import Answers, Chance
from pictures import MANY, MOST, WHITE, WRONG, bytes_of, of_length, svg
from shapedots.drawing import paint, size

SMALL = svg('<rect x="1" width="2" height="1" fill="#010203"/>', "", 3, 2)


class Dots(unittest.TestCase):
    def test_row_by_row(self):
        self.assertEqual(paint(MOST, bytes_of(SMALL)), [6, WHITE, 66051, 66051, WHITE, WHITE, WHITE])

    def test_no_shapes(self):
        self.assertEqual(paint(MOST, bytes_of('<svg width="2" height="3"/>')), [6] + [WHITE] * 6)
        self.assertEqual(paint(MOST, bytes_of('<svg width="1" height="1"></svg>')), [1, WHITE])

    def test_fill_of_svg_alone_paints_nothing(self):
        self.assertEqual(paint(MOST, bytes_of('<svg width="2" height="1" fill="#123456"/>')), [2, WHITE, WHITE])

    def test_longest_sides(self):
        for width, height in ((1024, 1), (1, 1024), (1024, 878)):
            text = bytes_of(svg(f'<rect x="{width - 1}" y="{height - 1}" width="9" height="9"/>', "", width, height))
            self.assertEqual(paint(MOST, text), [width * height] + [WHITE] * (width * height - 1) + [0])

    def test_everything_at_once(self):
        answer = paint(MOST, bytes_of(MANY))
        self.assertEqual(len(answer), 1 + 640 * 480)
        self.assertEqual(answer[0], 640 * 480)
        # The polygon's places are -3, -10 and -3, 10 and 7, 10: ten of its dots lie beside the rect.
        self.assertEqual(answer[1:].count(0x123456), 45)
        self.assertEqual(answer[1:].count(0x00FF7A), 30 * 38 - 35)
        self.assertEqual(answer[1:].count(WHITE), 640 * 480 - 30 * 38 - 10)

    def test_answer_is_a_list_of_whole_numbers(self):
        answer = paint(MOST, bytes_of(SMALL))
        self.assertIs(type(answer), list)
        self.assertEqual({type(number) for number in answer}, {int})


class Refusals(unittest.TestCase):
    def test_most_below_0(self):
        for most in (-1, -2, -2147483648):
            self.assertEqual(paint(most, bytes_of(SMALL)), [-1])

    def test_a_text_too_long(self):
        self.assertEqual(paint(MOST, bytes_of(of_length(65536)))[0], 200)
        self.assertEqual(paint(MOST, bytes_of(of_length(65537))), [-1])
        self.assertEqual(paint(MOST, bytes_of(of_length(65600))), [-1])

    def test_a_text_that_is_not_right(self):
        for text in ("", "x", svg("<a/>"), svg('<rect width="1"/>'), svg() + svg(), svg('<path d="L1 1"/>')):
            self.assertEqual(paint(MOST, bytes_of(text)), WRONG)
        self.assertEqual(paint(MOST, bytes_of(svg('<circle r="1" transform="scale(1024) scale(1025)"/>'))), WRONG)

    def test_more_dots_than_most(self):
        self.assertEqual(paint(6, bytes_of(SMALL))[0], 6)
        self.assertEqual(paint(7, bytes_of(SMALL))[0], 6)
        self.assertEqual(paint(5, bytes_of(SMALL)), [-3])
        self.assertEqual(paint(0, bytes_of(SMALL)), [-3])
        self.assertEqual(paint(0, bytes_of('<svg width="1" height="1"/>')), [-3])

    def test_more_dots_than_the_largest_most(self):
        self.assertEqual(paint(MOST, bytes_of(svg("", "", 1000, 900)))[0], 900000)
        self.assertEqual(paint(MOST, bytes_of(svg("", "", 1024, 879))), [-3])
        self.assertEqual(paint(MOST, bytes_of(svg("", "", 1024, 1024))), [-3])

    def test_which_comes_first(self):
        self.assertEqual(paint(-1, bytes_of("x")), [-1])
        self.assertEqual(paint(-1, []), [-1])
        self.assertEqual(paint(-1, [0] * 65537), [-1])
        self.assertEqual(paint(MOST, [0] * 65537), [-1])
        self.assertEqual(paint(0, bytes_of(of_length(65537))), [-1])
        self.assertEqual(paint(0, bytes_of("x")), WRONG)
        self.assertEqual(paint(0, []), WRONG)
        self.assertEqual(paint(0, bytes_of(svg("<g>"))), WRONG)


class LeftAlone(unittest.TestCase):
    def test_what_is_handed_in_stays(self):
        for text in (MANY, SMALL, svg("<a/>"), of_length(65537), ""):
            for most in (MOST, 5, -1):
                handed = bytes_of(text)
                paint(most, handed)
                self.assertEqual(handed, bytes_of(text))

    def test_nothing_is_kept(self):
        first = paint(MOST, bytes_of(SMALL))
        for text in (svg('<rect width="9" height="9"/>', "", 3, 2), svg("<g>"), of_length(65537), MANY):
            again = paint(MOST, bytes_of(text))
            self.assertEqual(paint(MOST, bytes_of(text)), again)
            self.assertEqual(paint(MOST, bytes_of(SMALL)), first)

    def test_answers_are_not_shared(self):
        for text, most in ((SMALL, MOST), (SMALL, 5), (SMALL, -1), ("", MOST)):
            answer = paint(most, bytes_of(text))
            kept = list(answer)
            answer.append(5)
            answer[0] = 7
            self.assertEqual(paint(most, bytes_of(text)), kept)

    def test_size_answers_as_before(self):
        before = size(bytes_of(MANY))
        paint(MOST, bytes_of(MANY))
        self.assertEqual(size(bytes_of(MANY)), before)
        self.assertEqual(before, [0, 640, 480, 5])


class ByChance(unittest.TestCase):
    def test_pictures_told_dot_by_dot(self):
        shown = 0
        for seed in range(250):
            picture = Chance(seed).picture()
            expected = Answers(picture).paint()
            shown += len(set(expected)) > 1
            with self.subTest(seed=seed, text=picture.text()):
                self.assertEqual(paint(MOST, bytes_of(picture.text())), [len(expected)] + expected)
        self.assertGreater(shown, 50)


if __name__ == "__main__":
    unittest.main()
